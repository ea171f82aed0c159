/-
 publicOf, layHalf, layMade.
-/
import Derived.Test.YtihfeoanognonaaGreatTU
namespace Go.Proofs.YtihfeoanognonaaGreat
set_option linter.unusedVariables false
set_option maxRecDepth 100000
set_option maxHeartbeats 2000000
open Go.RowKit
theorem gcall {ops : Array Oper} {Q : Exit → Act → World → Prop} {F : (Nat → Nat) → Act} {S : (Nat → Nat) → (Nat → Bool) → World → Prop} {i : Nat} {dst : Option Tmp} {ty : TypeId} {pos : String} {aft : Array Edge} {gd : Option (Nat × Bool)} {f : FuncId} {xs : Array Operand} {ats : Array TypeId} {v : (Nat → Nat) → Value} {args : (Nat → Nat) → Array Value}
  (hw : ∀ g, Region.wanted ⟨dst, .call { callee := .value (.func f), args := xs, argTypes := ats }, ty, pos, aft, gd⟩ (yielded ops (F g).tmps) = true) (hp : ∀ g, (F g).put dst (v g) = F g)
  (hr : ∀ args w, (callFunc f args).run Tryz.prog w = .ok (.enter f args) w) (ha : ∀ g, #[] ++ xs.map (F g).eval ++ #[] = args g)
  (hc : ∀ g d w, S g d w → (∀ e ∈ aft, Region.binds .any e = true → d e.on = true) → Calls Tryz.prog f (args g) w fun e w' => e = .returned (v g) ∧ S g (up d i true) w') : OpGhost Tryz.prog .any ops Q S F i ⟨dst, .call { callee := .value (.func f), args := xs, argTypes := ats }, ty, pos, aft, gd⟩ :=
 OpGhost.call (v := v) (args := args) hw hp (fun g w => by rw [execOp_call_go, ha g]; exact hr _ w) hc
structure SP (w0 : World) (x : Nat) (g : Nat → Nat) (d : Nat → Bool) (w : World) : Prop where
 ha : HA (bs w0) [] w
 b5 : d 5 = true → Blk w (g 5) 3 (intc [x])
 b6 : d 6 = true → d 5 = true ∧ g 6 = g 5
theorem SP.read {w0 : World} {x : Nat} {g : Nat → Nat} {d : Nat → Bool} {w : World} (h : SP w0 x g d w) {i : Nat} (h5 : i ≠ 5) (h6 : i ≠ 6) : SP w0 x g (up d i true) w :=
 ⟨h.ha, by rw [up_ne _ _ (Ne.symm h5)]; exact h.b5, by rw [up_ne _ _ (Ne.symm h5), up_ne _ _ (Ne.symm h6)]; exact h.b6⟩
theorem public_any {w : World} {t : Tb} {es : List Ent} (h : TV w t es) (x : Nat) (hx : x < 1000000) :
  Calls Tryz.prog 68 #[pt t.q, iN .i64 x] w fun e w' => e = .returned (onum (pubT es x)) ∧ Below w.heap.size w w' := by
 obtain ⟨v, hq, _⟩ := h.row
 have H0 := HA.start w
 go_enter Tryz.func68, Tryz.ntmps68
 refine zsr ?_
 refine zwv (iN .i64 0) ?_
 refine zwv (.bool false) ?_
 refine znt ?_
 refine wp_seq ?_
 refine zrg (fun g : Nat → Nat => (⟨(pt t.q :: iN .i64 x :: un :: un :: iN .i64 0 :: .bool false :: iN .i64 ((pubT es x).getD 0) :: .bool (pubT es x).isSome :: .tuple #[iN .i64 ((pubT es x).getD 0), .bool (pubT es x).isSome] :: pt t.q :: pt t.q :: .pointer (some ⟨t.q, 3, none⟩) :: .map (some t.mm) :: iN .i64 x :: .slice (some ⟨g 5, 0, none⟩) 1 1 :: .agg #[iN .i64 3, iN .i64 0, .string { data := #[] }, .slice (some ⟨g 6, 0, none⟩) 1 1] :: recV (recOf 3 0 { data := #[] } [x]) :: .tuple #[iN .i64 ((pubT es x).getD 0), .bool (pubT es x).isSome] :: iN .i64 ((pubT es x).getD 0) :: .bool (pubT es x).isSome :: List.replicate 2 un).toArray, []⟩ : Act)) (SP w x) (fun d hd => ⟨H0.drew, fun h5 => (by rw [hd 5 (by decide)] at h5; cases h5), fun h6 => (by rw [hd 6 (by decide)] at h6; cases h6)⟩) ?_ ?_
 ·refine zg (OpGhost.take (v := fun _ => .pointer (some ⟨t.q, 0, none⟩)) (fun _ => by kernel_rfl) (fun _ => by kernel_rfl) (fun g d w' h' _ => ⟨(by kernel_rfl), h'.read (by decide) (by decide)⟩)) ?_
  refine zg (OpGhost.take (v := fun _ => .pointer (some ⟨t.q, 0, none⟩)) (fun _ => by kernel_rfl) (fun _ => by kernel_rfl) (fun g d w' h' _ => ⟨(by kernel_rfl), h'.read (by decide) (by decide)⟩)) ?_
  refine zg (OpGhost.take (v := fun _ => .pointer (some ⟨t.q, 3, none⟩)) (fun _ => by kernel_rfl) (fun _ => by kernel_rfl) (fun g d w' h' _ => ⟨(by kernel_rfl), h'.read (by decide) (by decide)⟩)) ?_
  refine zg (OpGhost.take (v := fun _ => .map (some t.mm)) (fun _ => by kernel_rfl) (fun _ => by kernel_rfl) (fun g d w' h' _ => ⟨run_load1 Tryz.isAgg59 (((hq.keep h'.ha.old.old).cell 3).trans rfl), h'.read (by decide) (by decide)⟩)) ?_
  refine zg (OpGhost.take (v := fun _ => iN .i64 x) (fun _ => by kernel_rfl) (fun _ => by kernel_rfl) (fun g d w' h' _ => ⟨(by kernel_rfl), h'.read (by decide) (by decide)⟩)) ?_
  refine zg (OpGhost.act (v := fun _ w => .slice (some ⟨w.heap.size, 0, none⟩) 1 1) (n := fun _ w => w.heap.size) (W := fun _ w => w.alloc (.cells (intc [x]) 3)) (fun _ => by kernel_rfl) (fun _ _ => by kernel_rfl) (fun g d w' h' hd _ => ⟨by kernel_rfl, (h'.ha.make 3 (intc [x])).tl, fun _ => by rw [up_at]; exact Blk.new w' 3 (intc [x]), fun h6 => by rw [up_ne _ _ (by decide)] at h6; have := (h'.b6 h6).1; rw [hd] at this; cases this⟩)) ?_
  refine zg (OpGhost.act (v := fun g _ => .agg #[iN .i64 3, iN .i64 0, .string { data := #[] }, .slice (some ⟨g 5, 0, none⟩) 1 1]) (n := fun g _ => g 5) (W := fun _ w => w) (fun _ => by kernel_rfl) (fun _ _ => by kernel_rfl) (fun g d w' h' hd ha => ⟨by kernel_rfl, h'.ha, by rw [up_ne _ _ (by decide), up_ne _ _ (by decide)]; exact h'.b5, fun _ => ⟨by rw [up_ne _ _ (by decide)]; exact ahead_ok (l := [5]) (by kernel_rfl) ha 5 (by decide), by rw [up_at, up_ne _ _ (by decide)]⟩⟩)) ?_
  refine zg (gcall (v := fun _ => recV (recOf 3 0 { data := #[] } [x])) (args := fun g => #[.agg #[iN .i64 3, iN .i64 0, .string { data := #[] }, .slice (some ⟨g 6, 0, none⟩) 1 1]]) (fun _ => by kernel_rfl) (fun _ => by kernel_rfl) enter55 (fun _ => by kernel_rfl) (fun g d w' h' ha => (recipe_any 3 0 { data := #[] } [x] (g 6) (by have h6 := h'.b6 (ahead_ok (l := [6]) (by kernel_rfl) ha 6 (by decide)); rw [h6.2]; exact h'.b5 h6.1) (by simp) (fun i => getD_lt (m := 1000000) (by simpa using hx) (by decide) i)).mono (fun e w2 he => ⟨he.1, SP.read ⟨h'.ha.keep _ _ he.2, fun h5 => (h'.b5 h5).keep he.2, h'.b6⟩ (by decide) (by decide)⟩))) ?_
  refine zg (OpGhost.take (v := fun _ => .tuple #[iN .i64 ((pubT es x).getD 0), .bool (pubT es x).isSome]) (fun _ => by kernel_rfl) (fun _ => by kernel_rfl) (fun g d w' h' _ => ⟨run_lk72 (s := recOf 3 0 { data := #[] } [x]) (h.keep h'.ha.old.old).mm (pubT es x) rfl, h'.read (by decide) (by decide)⟩)) ?_
  refine zg (OpGhost.take (v := fun _ => .tuple #[iN .i64 ((pubT es x).getD 0), .bool (pubT es x).isSome]) (fun _ => by kernel_rfl) (fun _ => by kernel_rfl) (fun g d w' h' _ => ⟨(by kernel_rfl), h'.read (by decide) (by decide)⟩)) ?_
  refine zg (OpGhost.take (v := fun _ => iN .i64 ((pubT es x).getD 0)) (fun _ => by kernel_rfl) (fun _ => by kernel_rfl) (fun g d w' h' _ => ⟨(by kernel_rfl), h'.read (by decide) (by decide)⟩)) ?_
  refine zg (OpGhost.take (v := fun _ => .bool (pubT es x).isSome) (fun _ => by kernel_rfl) (fun _ => by kernel_rfl) (fun g d w' h' _ => ⟨(by kernel_rfl), h'.read (by decide) (by decide)⟩)) ?_
  refine zg (OpGhost.take (v := fun _ => iN .i64 ((pubT es x).getD 0)) (fun _ => by kernel_rfl) (fun _ => by kernel_rfl) (fun g d w' h' _ => ⟨(by kernel_rfl), h'.read (by decide) (by decide)⟩)) ?_
  refine zg (OpGhost.take (v := fun _ => .bool (pubT es x).isSome) (fun _ => by kernel_rfl) (fun _ => by kernel_rfl) (fun g d w' h' _ => ⟨(by kernel_rfl), h'.read (by decide) (by decide)⟩)) ?_
  exact AllGhost.nil
 intro g w1 hg0
 have h2 := hg0.ha
 clear hg0
 refine then_at rfl ?_
 refine zsr ?_
 refine zwv (iN .i64 ((pubT es x).getD 0)) ?_
 refine zwv (.bool (pubT es x).isSome) ?_
 refine zwv (iN .i64 ((pubT es x).getD 0)) ?_
 refine zwv (.bool (pubT es x).isSome) ?_
 refine znt ?_
 refine wp_ret ?_
 repeat first | refine then_ret ?_ | refine block_ret ?_
 exact bodyPost_ret (by kernel_rfl) rfl ⟨rfl, h2.old.old⟩
theorem half_a {z : Base} {b : Wb} {m : Nat} {st : St} {L : BL} {w : World} (H : WH z b m st L w) (hok : Wok m st) (hm : m ≤ 100000) {t : Tb} {es : List Ent} (h : TV z.w t es) (hme : m = es.length) {x a o : Nat} (hx : x < m) (ha : a < m) (ho : o < m) (hs : siz st + 2 ≤ 1000000) {p : Nat} (hp : pubT es o = some p) (hpm : p < m) :
  Calls Tryz.prog 56 #[pt t.q, pt b.p, iN .i64 x, iN .i64 a, iN .i64 o] w fun e w' => e = .returned (.tuple #[]) ∧ WH z b m (halfS es st x a o) L w' := by
 go_enter Tryz.func56, Tryz.ntmps56
 refine zsr ?_
 refine zwv (.pointer (some ⟨t.q, 0, none⟩)) ?_
 refine zwv (iN .i64 o) ?_
 refine wl_callx enter68 #[.pointer (some ⟨t.q, 0, none⟩), iN .i64 o] (by have := public_any (h.keep H.ha.old.old) o (by omega); rw [hp] at this; exact this) ?_
 rintro _ w2 ⟨rfl, hb1⟩
 refine ⟨_, rfl, ?_⟩
 have hW3 : WH z b m st (L) w2 := WH.keep H hb1
 refine zwv (.tuple #[iN .i64 p, .bool true]) ?_
 refine zwv (iN .i64 p) ?_
 refine zwv (.bool true) ?_
 refine zwv (iN .i64 p) ?_
 refine zwv (.bool true) ?_
 refine znt ?_
 refine zsr ?_
 refine zwv (.bool true) ?_
 refine znt ?_
 refine zct ?_
 refine wl_region ?_
 refine zwv (.pointer (some ⟨b.p, 0, none⟩)) ?_
 refine zwv (iN .i64 x) ?_
 refine zwv (iN .i64 a) ?_
 refine zwv (iN .i64 p) ?_
 refine wl_mksW (n := 2) (k := 2) (c := intc ([a, p])) hW3 3 (by kernel_rfl) (by kernel_rfl) ?_
 intro q4 w5 (hW6 : WH z b m st ((q4, 3, intc ([a, p])) :: L) w5)
 refine wl_callx enter39 #[.pointer (some ⟨b.p, 0, none⟩), iN .i64 x, .slice (some ⟨q4, 0, none⟩) 2 2] (rule_any hW6 hok hx hm ([a, p]) _ 2 (.inr ⟨q4, intc [a, p], rfl, .inl (by simp), fun j hj => intc_get _ j hj⟩) (fun j hj => getD_lt (m := m) (by intro y hy; simp only [List.mem_cons, List.not_mem_nil, or_false] at hy; omega) (by omega) j) (by simp only [List.length_cons, List.length_nil]; omega)) ?_
 rintro _ w8 ⟨rfl, hW7⟩
 refine ⟨_, rfl, ?_⟩
 have hok9 := ruleS_ok hok hx ([a, p])
 have hszhok9 := siz_rule st x ([a, p])
 refine wl_nil ?_
 exact bodyPost_end (v := .tuple #[]) (by kernel_rfl) rfl ⟨rfl, by rw [halfS, hp]; exact WH.sub hW7 (List.sublist_cons_self _ _)⟩
theorem half_b {z : Base} {b : Wb} {m : Nat} {st : St} {L : BL} {w : World} (H : WH z b m st L w) (hok : Wok m st) (hm : m ≤ 100000) {t : Tb} {es : List Ent} (h : TV z.w t es) (hme : m = es.length) {x a o : Nat} (hx : x < m) (ha : a < m) (ho : o < m) (hs : siz st + 2 ≤ 1000000) (hp : pubT es o = none) :
  Calls Tryz.prog 56 #[pt t.q, pt b.p, iN .i64 x, iN .i64 a, iN .i64 o] w fun e w' => e = .returned (.tuple #[]) ∧ WH z b m (halfS es st x a o) L w' := by
 go_enter Tryz.func56, Tryz.ntmps56
 refine zsr ?_
 refine zwv (.pointer (some ⟨t.q, 0, none⟩)) ?_
 refine zwv (iN .i64 o) ?_
 refine wl_callx enter68 #[.pointer (some ⟨t.q, 0, none⟩), iN .i64 o] (by have := public_any (h.keep H.ha.old.old) o (by omega); rw [hp] at this; exact this) ?_
 rintro _ w2 ⟨rfl, hb1⟩
 refine ⟨_, rfl, ?_⟩
 have hW3 : WH z b m st (L) w2 := WH.keep H hb1
 refine zwv (.tuple #[iN .i64 0, .bool false]) ?_
 refine zwv (iN .i64 0) ?_
 refine zwv (.bool false) ?_
 refine zwv (iN .i64 0) ?_
 refine zwv (.bool false) ?_
 refine znt ?_
 refine zsr ?_
 refine zwv (.bool false) ?_
 refine znt ?_
 refine zcf ?_
 refine wp_skip ?_
 exact bodyPost_end (v := .tuple #[]) (by kernel_rfl) rfl ⟨rfl, by rw [halfS, hp]; exact WH.sub hW3 (List.Sublist.refl _)⟩
theorem pubT_lt {es : List Ent} {x p : Nat} (h : pubT es x = some p) : p < es.length := by
 unfold pubT lkR at h
 obtain ⟨y, hy, rfl⟩ := Option.map_eq_some_iff.1 h
 have := mks_lt es 0 y (List.mem_of_find?_eq_some hy)
 omega
theorem half_any {z : Base} {b : Wb} {m : Nat} {st : St} {L : BL} {w : World} (H : WH z b m st L w) (hok : Wok m st) (hm : m ≤ 100000) {t : Tb} {es : List Ent} (h : TV z.w t es) (hme : m = es.length) {x a o : Nat} (hx : x < m) (ha : a < m) (ho : o < m) (hs : siz st + 2 ≤ 1000000) :
  Calls Tryz.prog 56 #[pt t.q, pt b.p, iN .i64 x, iN .i64 a, iN .i64 o] w fun e w' => e = .returned (.tuple #[]) ∧ WH z b m (halfS es st x a o) L w' := by
 cases hp : pubT es o with
 | some p => exact half_a H hok hm h hme hx ha ho hs hp (by have := pubT_lt hp; omega)
 | none => exact half_b H hok hm h hme hx ha ho hs hp
theorem half_ok {m : Nat} {st : St} (h : Wok m st) (es : List Ent) {x : Nat} (hx : x < m) (a o : Nat) : Wok m (halfS es st x a o) ∧ siz (halfS es st x a o) ≤ siz st + 3 := by
 unfold halfS
 split
 ·exact ⟨ruleS_ok h hx _, siz_rule st x _⟩
 ·exact ⟨h, by omega⟩
theorem WH.drew {z : Base} {b : Wb} {m : Nat} {st : St} {L : BL} {w : World} (h : WH z b m st L w) : WH z b m st L w.drew := by
 obtain ⟨rv, nv, avs, Lr, Ln, La, k1, k2, k3, H⟩ := h
 exact ⟨rv, nv, avs, Lr, Ln, La, k1, k2, k3, H.drew⟩
theorem made_dh0 {z : Base} {b : Wb} {m : Nat} {st : St} {L : BL} {w : World} (H : WH z b m st L w) (hok : Wok m st) (hm : m ≤ 100000) {t : Tb} {es : List Ent} (h : TV z.w t es) (hme : m = es.length) {x k n : Nat} {s : ByteArray} {ps : List Nat} {pb : Nat} (hx : x < m) (hpb : Blk z.w pb 3 (intc ps)) (hps : ∀ j, j < ps.length → ps.getD j 0 < m) (hpl : ps.length ≤ 100) (hs : siz st + 200 ≤ 1000000) (hk : k = 4) (hl : ps.length = 2) (hn0 : n = 0) :
  Calls Tryz.prog 40 #[pt t.q, pt b.p, iN .i64 x, mkv k n s pb ps.length] w fun e w' => e = .returned (.tuple #[]) ∧ WH z b m (madeS es st x k n ps) L w' := by
 go_enter Tryz.func40, Tryz.ntmps40
 refine zsr ?_
 refine wl_makeW (c := #[iN .i64 k, iN .i64 n, .string s, .slice (some ⟨pb, 0, none⟩) ps.length ps.length]) H 94 ?_
 intro q1 w2 (hW3 : WH z b m st ((q1, 94, #[iN .i64 k, iN .i64 n, .string s, .slice (some ⟨pb, 0, none⟩) ps.length ps.length]) :: L) w2)
 refine znt ?_
 refine zsr ?_
 refine zwv (.pointer (some ⟨b.p, 0, none⟩)) ?_
 refine zwv (iN .i64 x) ?_
 refine zwv (.pointer (some ⟨q1, 3, none⟩)) ?_
 refine zwu (v := .slice (some ⟨pb, 0, none⟩) ps.length ps.length) (run_load1 Tryz.isAgg63 (((hW3.ha.get 0 rfl).cell 3).trans rfl)) ?_
 refine wl_callx enter39 #[.pointer (some ⟨b.p, 0, none⟩), iN .i64 x, .slice (some ⟨pb, 0, none⟩) ps.length ps.length] (rule_any hW3 hok hx hm ps _ ps.length (.inr ⟨pb, intc ps, rfl, .inr hpb, fun j hj => intc_get ps j hj⟩) (fun j hj => hps j hj) (by omega)) ?_
 rintro _ w5 ⟨rfl, hW4⟩
 refine ⟨_, rfl, ?_⟩
 have hok6 := ruleS_ok hok hx ps
 have hszhok6 := siz_rule st x ps
 refine znt ?_
 refine zsr ?_
 refine zwv (.pointer (some ⟨q1, 0, none⟩)) ?_
 refine zwu (v := iN .i64 k) (run_load1 Tryz.isAgg3 (((hW4.ha.get 0 rfl).cell 0).trans rfl)) ?_
 refine znt ?_
 refine wp_block ?_
 refine zsr ?_
 refine zwu (run_eqi (k := .i64) (a := k) (b := 4) true (ht := (decide_eq_true (by omega)))) ?_
 refine zwv (.bool true) ?_
 refine znt ?_
 refine zct ?_
 refine zsr ?_
 refine zwv (.pointer (some ⟨q1, 1, none⟩)) ?_
 refine zwu (v := iN .i64 n) (run_load1 Tryz.isAgg3 (((hW4.ha.get 0 rfl).cell 1).trans rfl)) ?_
 refine zwu (run_eqi (k := .i64) (a := n) (b := 0) true (ht := (decide_eq_true hn0))) ?_
 refine znt ?_
 refine zct ?_
 refine wp_seq ?_
 refine zrg (fun g : Nat → Nat => (⟨(pt t.q :: pt b.p :: iN .i64 x :: .agg #[iN .i64 k, iN .i64 n, .string s, .slice (some ⟨pb, 0, none⟩) ps.length ps.length] :: un :: un :: un :: pt q1 :: pt b.p :: iN .i64 x :: .pointer (some ⟨q1, 3, none⟩) :: .slice (some ⟨pb, 0, none⟩) ps.length ps.length :: .tuple #[] :: pt q1 :: iN .i64 k :: .bool true :: .bool true :: .pointer (some ⟨q1, 1, none⟩) :: iN .i64 n :: .bool true :: pt t.q :: pt b.p :: iN .i64 x :: .pointer (some ⟨q1, 3, none⟩) :: .slice (some ⟨pb, 0, none⟩) ps.length ps.length :: pt pb :: iN .i64 (ps.getD 0 0) :: .pointer (some ⟨q1, 3, none⟩) :: .slice (some ⟨pb, 0, none⟩) ps.length ps.length :: .pointer (some ⟨pb, 1, none⟩) :: iN .i64 (ps.getD 1 0) :: .tuple #[] :: List.replicate 36 un).toArray, []⟩ : Act)) (G1 (HA z [(q1, 94, #[iN .i64 k, iN .i64 n, .string s, .slice (some ⟨pb, 0, none⟩) ps.length ps.length])]) (fun w' => WH z b m (ruleS st x ps) ((q1, 94, #[iN .i64 k, iN .i64 n, .string s, .slice (some ⟨pb, 0, none⟩) ps.length ps.length]) :: L) w') (fun _ w' => WH z b m (halfS es (ruleS st x ps) x (ps.getD 0 0) (ps.getD 1 0)) ((q1, 94, #[iN .i64 k, iN .i64 n, .string s, .slice (some ⟨pb, 0, none⟩) ps.length ps.length]) :: L) w') 11) (fun d hd => G1.start (hW4.ha.sub (List.Sublist.cons_cons _ (List.nil_sublist _))).drew (WH.drew hW4) (hd 11 (by decide))) ?_ ?_
 ·refine zg (g1_read (v := fun g => .pointer (some ⟨t.q, 0, none⟩)) (by decide) (fun _ => by kernel_rfl) (fun _ => by kernel_rfl) (fun g _ _ => (by kernel_rfl))) ?_
  refine zg (g1_read (v := fun g => .pointer (some ⟨b.p, 0, none⟩)) (by decide) (fun _ => by kernel_rfl) (fun _ => by kernel_rfl) (fun g _ _ => (by kernel_rfl))) ?_
  refine zg (g1_read (v := fun g => iN .i64 x) (by decide) (fun _ => by kernel_rfl) (fun _ => by kernel_rfl) (fun g _ _ => (by kernel_rfl))) ?_
  refine zg (g1_read (v := fun g => .pointer (some ⟨q1, 3, none⟩)) (by decide) (fun _ => by kernel_rfl) (fun _ => by kernel_rfl) (fun g _ _ => (by kernel_rfl))) ?_
  refine zg (g1_read (v := fun g => .slice (some ⟨pb, 0, none⟩) ps.length ps.length) (by decide) (fun _ => by kernel_rfl) (fun _ => by kernel_rfl) (fun g w' h' => run_load1 Tryz.isAgg63 (((h'.get 0 rfl).cell 3).trans rfl))) ?_
  refine zg (g1_read (v := fun g => .pointer (some ⟨pb, 0, none⟩)) (by decide) (fun _ => by kernel_rfl) (fun _ => by kernel_rfl) (fun g _ _ => (run_addr_slice (q := pb) (n := ps.length) (m := ps.length) (a := 0) Tryz.underlying63 Tryz.sizeOf3 (by omega)))) ?_
  refine zg (g1_read (v := fun g => iN .i64 (ps.getD 0 0)) (by decide) (fun _ => by kernel_rfl) (fun _ => by kernel_rfl) (fun g w' h' => run_load1 Tryz.isAgg3 (((hpb.keep h'.old.old).cell 0).trans (intc_get ps 0 (by omega))))) ?_
  refine zg (g1_read (v := fun g => .pointer (some ⟨q1, 3, none⟩)) (by decide) (fun _ => by kernel_rfl) (fun _ => by kernel_rfl) (fun g _ _ => (by kernel_rfl))) ?_
  refine zg (g1_read (v := fun g => .slice (some ⟨pb, 0, none⟩) ps.length ps.length) (by decide) (fun _ => by kernel_rfl) (fun _ => by kernel_rfl) (fun g w' h' => run_load1 Tryz.isAgg63 (((h'.get 0 rfl).cell 3).trans rfl))) ?_
  refine zg (g1_read (v := fun g => .pointer (some ⟨pb, 1, none⟩)) (by decide) (fun _ => by kernel_rfl) (fun _ => by kernel_rfl) (fun g _ _ => (run_addr_slice (q := pb) (n := ps.length) (m := ps.length) (a := 1) Tryz.underlying63 Tryz.sizeOf3 (by omega)))) ?_
  refine zg (g1_read (v := fun g => iN .i64 (ps.getD 1 0)) (by decide) (fun _ => by kernel_rfl) (fun _ => by kernel_rfl) (fun g w' h' => run_load1 Tryz.isAgg3 (((hpb.keep h'.old.old).cell 1).trans (intc_get ps 1 (by omega))))) ?_
  refine zg (g1_call0 (v := fun _ => .tuple #[]) (args := #[.pointer (some ⟨t.q, 0, none⟩), .pointer (some ⟨b.p, 0, none⟩), iN .i64 x, iN .i64 (ps.getD 0 0), iN .i64 (ps.getD 1 0)]) (fun _ => by kernel_rfl) (fun _ _ => by kernel_rfl) enter56 (fun _ => by kernel_rfl) (fun w' _ h0 => (half_any h0 hok6 hm h hme hx (hps 0 (by omega)) (hps 1 (by omega)) (by omega)).mono (by rintro e w2 ⟨e1, e2⟩; exact ⟨0, e1, e2.ha.sub (List.Sublist.cons_cons _ (List.nil_sublist _)), e2⟩))) ?_
  exact AllGhost.nil
 intro g w8 gg9
 have h10 := gg9.held
 rw [if_pos rfl] at h10
 clear gg9
 generalize g 11 = n11 at h10 ⊢
 clear g
 have hW12 : WH z b m (halfS es (ruleS st x ps) x (ps.getD 0 0) (ps.getD 1 0)) ((q1, 94, #[iN .i64 k, iN .i64 n, .string s, .slice (some ⟨pb, 0, none⟩) ps.length ps.length]) :: L) w8 := h10
 have hok13 := (half_ok hok6 es hx (ps.getD 0 0) (ps.getD 1 0)).1
 have hszhok13 := (half_ok hok6 es hx (ps.getD 0 0) (ps.getD 1 0)).2
 refine then_at rfl ?_
 refine zrg (fun g : Nat → Nat => (⟨(pt t.q :: pt b.p :: iN .i64 x :: .agg #[iN .i64 k, iN .i64 n, .string s, .slice (some ⟨pb, 0, none⟩) ps.length ps.length] :: un :: un :: un :: pt q1 :: pt b.p :: iN .i64 x :: .pointer (some ⟨q1, 3, none⟩) :: .slice (some ⟨pb, 0, none⟩) ps.length ps.length :: .tuple #[] :: pt q1 :: iN .i64 k :: .bool true :: .bool true :: .pointer (some ⟨q1, 1, none⟩) :: iN .i64 n :: .bool true :: pt t.q :: pt b.p :: iN .i64 x :: .pointer (some ⟨q1, 3, none⟩) :: .slice (some ⟨pb, 0, none⟩) ps.length ps.length :: pt pb :: iN .i64 (ps.getD 0 0) :: .pointer (some ⟨q1, 3, none⟩) :: .slice (some ⟨pb, 0, none⟩) ps.length ps.length :: .pointer (some ⟨pb, 1, none⟩) :: iN .i64 (ps.getD 1 0) :: .tuple #[] :: pt t.q :: pt b.p :: iN .i64 x :: .pointer (some ⟨q1, 3, none⟩) :: .slice (some ⟨pb, 0, none⟩) ps.length ps.length :: .pointer (some ⟨pb, 1, none⟩) :: iN .i64 (ps.getD 1 0) :: .pointer (some ⟨q1, 3, none⟩) :: .slice (some ⟨pb, 0, none⟩) ps.length ps.length :: pt pb :: iN .i64 (ps.getD 0 0) :: .tuple #[] :: List.replicate 24 un).toArray, []⟩ : Act)) (G1 (HA z [(q1, 94, #[iN .i64 k, iN .i64 n, .string s, .slice (some ⟨pb, 0, none⟩) ps.length ps.length])]) (fun w' => WH z b m (halfS es (ruleS st x ps) x (ps.getD 0 0) (ps.getD 1 0)) ((q1, 94, #[iN .i64 k, iN .i64 n, .string s, .slice (some ⟨pb, 0, none⟩) ps.length ps.length]) :: L) w') (fun _ w' => WH z b m (halfS es (halfS es (ruleS st x ps) x (ps.getD 0 0) (ps.getD 1 0)) x (ps.getD 1 0) (ps.getD 0 0)) ((q1, 94, #[iN .i64 k, iN .i64 n, .string s, .slice (some ⟨pb, 0, none⟩) ps.length ps.length]) :: L) w') 11) (fun d hd => G1.start (hW12.ha.sub (List.Sublist.cons_cons _ (List.nil_sublist _))).drew (WH.drew hW12) (hd 11 (by decide))) ?_ ?_
 ·refine zg (g1_read (v := fun g => .pointer (some ⟨t.q, 0, none⟩)) (by decide) (fun _ => by kernel_rfl) (fun _ => by kernel_rfl) (fun g _ _ => (by kernel_rfl))) ?_
  refine zg (g1_read (v := fun g => .pointer (some ⟨b.p, 0, none⟩)) (by decide) (fun _ => by kernel_rfl) (fun _ => by kernel_rfl) (fun g _ _ => (by kernel_rfl))) ?_
  refine zg (g1_read (v := fun g => iN .i64 x) (by decide) (fun _ => by kernel_rfl) (fun _ => by kernel_rfl) (fun g _ _ => (by kernel_rfl))) ?_
  refine zg (g1_read (v := fun g => .pointer (some ⟨q1, 3, none⟩)) (by decide) (fun _ => by kernel_rfl) (fun _ => by kernel_rfl) (fun g _ _ => (by kernel_rfl))) ?_
  refine zg (g1_read (v := fun g => .slice (some ⟨pb, 0, none⟩) ps.length ps.length) (by decide) (fun _ => by kernel_rfl) (fun _ => by kernel_rfl) (fun g w' h' => run_load1 Tryz.isAgg63 (((h'.get 0 rfl).cell 3).trans rfl))) ?_
  refine zg (g1_read (v := fun g => .pointer (some ⟨pb, 1, none⟩)) (by decide) (fun _ => by kernel_rfl) (fun _ => by kernel_rfl) (fun g _ _ => (run_addr_slice (q := pb) (n := ps.length) (m := ps.length) (a := 1) Tryz.underlying63 Tryz.sizeOf3 (by omega)))) ?_
  refine zg (g1_read (v := fun g => iN .i64 (ps.getD 1 0)) (by decide) (fun _ => by kernel_rfl) (fun _ => by kernel_rfl) (fun g w' h' => run_load1 Tryz.isAgg3 (((hpb.keep h'.old.old).cell 1).trans (intc_get ps 1 (by omega))))) ?_
  refine zg (g1_read (v := fun g => .pointer (some ⟨q1, 3, none⟩)) (by decide) (fun _ => by kernel_rfl) (fun _ => by kernel_rfl) (fun g _ _ => (by kernel_rfl))) ?_
  refine zg (g1_read (v := fun g => .slice (some ⟨pb, 0, none⟩) ps.length ps.length) (by decide) (fun _ => by kernel_rfl) (fun _ => by kernel_rfl) (fun g w' h' => run_load1 Tryz.isAgg63 (((h'.get 0 rfl).cell 3).trans rfl))) ?_
  refine zg (g1_read (v := fun g => .pointer (some ⟨pb, 0, none⟩)) (by decide) (fun _ => by kernel_rfl) (fun _ => by kernel_rfl) (fun g _ _ => (run_addr_slice (q := pb) (n := ps.length) (m := ps.length) (a := 0) Tryz.underlying63 Tryz.sizeOf3 (by omega)))) ?_
  refine zg (g1_read (v := fun g => iN .i64 (ps.getD 0 0)) (by decide) (fun _ => by kernel_rfl) (fun _ => by kernel_rfl) (fun g w' h' => run_load1 Tryz.isAgg3 (((hpb.keep h'.old.old).cell 0).trans (intc_get ps 0 (by omega))))) ?_
  refine zg (g1_call0 (v := fun _ => .tuple #[]) (args := #[.pointer (some ⟨t.q, 0, none⟩), .pointer (some ⟨b.p, 0, none⟩), iN .i64 x, iN .i64 (ps.getD 1 0), iN .i64 (ps.getD 0 0)]) (fun _ => by kernel_rfl) (fun _ _ => by kernel_rfl) enter56 (fun _ => by kernel_rfl) (fun w' _ h0 => (half_any h0 hok13 hm h hme hx (hps 1 (by omega)) (hps 0 (by omega)) (by omega)).mono (by rintro e w2 ⟨e1, e2⟩; exact ⟨0, e1, e2.ha.sub (List.Sublist.cons_cons _ (List.nil_sublist _)), e2⟩))) ?_
  exact AllGhost.nil
 intro g w15 gg16
 have h17 := gg16.held
 rw [if_pos rfl] at h17
 clear gg16
 generalize g 11 = n18 at h17 ⊢
 clear g
 have hW19 : WH z b m (halfS es (halfS es (ruleS st x ps) x (ps.getD 0 0) (ps.getD 1 0)) x (ps.getD 1 0) (ps.getD 0 0)) ((q1, 94, #[iN .i64 k, iN .i64 n, .string s, .slice (some ⟨pb, 0, none⟩) ps.length ps.length]) :: L) w15 := h17
 have hok20 := (half_ok hok13 es hx (ps.getD 1 0) (ps.getD 0 0)).1
 have hszhok20 := (half_ok hok13 es hx (ps.getD 1 0) (ps.getD 0 0)).2
 refine block_normal ?_
 exact bodyPost_end (v := .tuple #[]) (by kernel_rfl) rfl ⟨rfl, by rw [madeS, if_pos hk, if_pos hn0]; exact WH.sub hW19 (List.sublist_append_right [(q1, 94, #[iN .i64 k, iN .i64 n, .string s, .slice (some ⟨pb, 0, none⟩) ps.length ps.length])] L)⟩
theorem made_dh1 {z : Base} {b : Wb} {m : Nat} {st : St} {L : BL} {w : World} (H : WH z b m st L w) (hok : Wok m st) (hm : m ≤ 100000) {t : Tb} {es : List Ent} (h : TV z.w t es) (hme : m = es.length) {x k n : Nat} {s : ByteArray} {ps : List Nat} {pb : Nat} (hx : x < m) (hpb : Blk z.w pb 3 (intc ps)) (hps : ∀ j, j < ps.length → ps.getD j 0 < m) (hpl : ps.length ≤ 100) (hs : siz st + 200 ≤ 1000000) (hk : k = 4) (hl : ps.length = 2) (hn0 : ¬ n = 0) :
  Calls Tryz.prog 40 #[pt t.q, pt b.p, iN .i64 x, mkv k n s pb ps.length] w fun e w' => e = .returned (.tuple #[]) ∧ WH z b m (madeS es st x k n ps) L w' := by
 go_enter Tryz.func40, Tryz.ntmps40
 refine zsr ?_
 refine wl_makeW (c := #[iN .i64 k, iN .i64 n, .string s, .slice (some ⟨pb, 0, none⟩) ps.length ps.length]) H 94 ?_
 intro q1 w2 (hW3 : WH z b m st ((q1, 94, #[iN .i64 k, iN .i64 n, .string s, .slice (some ⟨pb, 0, none⟩) ps.length ps.length]) :: L) w2)
 refine znt ?_
 refine zsr ?_
 refine zwv (.pointer (some ⟨b.p, 0, none⟩)) ?_
 refine zwv (iN .i64 x) ?_
 refine zwv (.pointer (some ⟨q1, 3, none⟩)) ?_
 refine zwu (v := .slice (some ⟨pb, 0, none⟩) ps.length ps.length) (run_load1 Tryz.isAgg63 (((hW3.ha.get 0 rfl).cell 3).trans rfl)) ?_
 refine wl_callx enter39 #[.pointer (some ⟨b.p, 0, none⟩), iN .i64 x, .slice (some ⟨pb, 0, none⟩) ps.length ps.length] (rule_any hW3 hok hx hm ps _ ps.length (.inr ⟨pb, intc ps, rfl, .inr hpb, fun j hj => intc_get ps j hj⟩) (fun j hj => hps j hj) (by omega)) ?_
 rintro _ w5 ⟨rfl, hW4⟩
 refine ⟨_, rfl, ?_⟩
 have hok6 := ruleS_ok hok hx ps
 have hszhok6 := siz_rule st x ps
 refine znt ?_
 refine zsr ?_
 refine zwv (.pointer (some ⟨q1, 0, none⟩)) ?_
 refine zwu (v := iN .i64 k) (run_load1 Tryz.isAgg3 (((hW4.ha.get 0 rfl).cell 0).trans rfl)) ?_
 refine znt ?_
 refine wp_block ?_
 refine zsr ?_
 refine zwu (run_eqi (k := .i64) (a := k) (b := 4) true (ht := (decide_eq_true (by omega)))) ?_
 refine zwv (.bool true) ?_
 refine znt ?_
 refine zct ?_
 refine zsr ?_
 refine zwv (.pointer (some ⟨q1, 1, none⟩)) ?_
 refine zwu (v := iN .i64 n) (run_load1 Tryz.isAgg3 (((hW4.ha.get 0 rfl).cell 1).trans rfl)) ?_
 refine zwu (run_eqi (k := .i64) (a := n) (b := 0) false (ht := (decide_eq_false hn0))) ?_
 refine znt ?_
 refine zcf ?_
 refine wp_skip ?_
 refine block_normal ?_
 exact bodyPost_end (v := .tuple #[]) (by kernel_rfl) rfl ⟨rfl, by rw [madeS, if_pos hk, if_neg hn0]; exact WH.sub hW4 (List.sublist_append_right [(q1, 94, #[iN .i64 k, iN .i64 n, .string s, .slice (some ⟨pb, 0, none⟩) ps.length ps.length])] L)⟩
theorem made_enc {z : Base} {b : Wb} {m : Nat} {st : St} {L : BL} {w : World} (H : WH z b m st L w) (hok : Wok m st) (hm : m ≤ 100000) {t : Tb} {es : List Ent} (h : TV z.w t es) (hme : m = es.length) {x k n : Nat} {s : ByteArray} {ps : List Nat} {pb : Nat} (hx : x < m) (hpb : Blk z.w pb 3 (intc ps)) (hps : ∀ j, j < ps.length → ps.getD j 0 < m) (hpl : ps.length ≤ 100) (hs : siz st + 200 ≤ 1000000) (hk : k = 6) (hl : ps.length = 4) :
  Calls Tryz.prog 40 #[pt t.q, pt b.p, iN .i64 x, mkv k n s pb ps.length] w fun e w' => e = .returned (.tuple #[]) ∧ WH z b m (madeS es st x k n ps) L w' := by
 go_enter Tryz.func40, Tryz.ntmps40
 refine zsr ?_
 refine wl_makeW (c := #[iN .i64 k, iN .i64 n, .string s, .slice (some ⟨pb, 0, none⟩) ps.length ps.length]) H 94 ?_
 intro q1 w2 (hW3 : WH z b m st ((q1, 94, #[iN .i64 k, iN .i64 n, .string s, .slice (some ⟨pb, 0, none⟩) ps.length ps.length]) :: L) w2)
 refine znt ?_
 refine zsr ?_
 refine zwv (.pointer (some ⟨b.p, 0, none⟩)) ?_
 refine zwv (iN .i64 x) ?_
 refine zwv (.pointer (some ⟨q1, 3, none⟩)) ?_
 refine zwu (v := .slice (some ⟨pb, 0, none⟩) ps.length ps.length) (run_load1 Tryz.isAgg63 (((hW3.ha.get 0 rfl).cell 3).trans rfl)) ?_
 refine wl_callx enter39 #[.pointer (some ⟨b.p, 0, none⟩), iN .i64 x, .slice (some ⟨pb, 0, none⟩) ps.length ps.length] (rule_any hW3 hok hx hm ps _ ps.length (.inr ⟨pb, intc ps, rfl, .inr hpb, fun j hj => intc_get ps j hj⟩) (fun j hj => hps j hj) (by omega)) ?_
 rintro _ w5 ⟨rfl, hW4⟩
 refine ⟨_, rfl, ?_⟩
 have hok6 := ruleS_ok hok hx ps
 have hszhok6 := siz_rule st x ps
 refine znt ?_
 refine zsr ?_
 refine zwv (.pointer (some ⟨q1, 0, none⟩)) ?_
 refine zwu (v := iN .i64 k) (run_load1 Tryz.isAgg3 (((hW4.ha.get 0 rfl).cell 0).trans rfl)) ?_
 refine znt ?_
 refine wp_block ?_
 refine zsr ?_
 refine zwu (run_eqi (k := .i64) (a := k) (b := 4) false (ht := (decide_eq_false (by omega)))) ?_
 refine zwv (.bool false) ?_
 refine znt ?_
 refine zcf ?_
 refine zsr ?_
 refine zwu (run_eqi (k := .i64) (a := k) (b := 6) true (ht := (decide_eq_true (by omega)))) ?_
 refine zwv (.bool true) ?_
 refine znt ?_
 refine zct ?_
 refine zrg (fun g : Nat → Nat => (⟨(pt t.q :: pt b.p :: iN .i64 x :: .agg #[iN .i64 k, iN .i64 n, .string s, .slice (some ⟨pb, 0, none⟩) ps.length ps.length] :: un :: un :: un :: pt q1 :: pt b.p :: iN .i64 x :: .pointer (some ⟨q1, 3, none⟩) :: .slice (some ⟨pb, 0, none⟩) ps.length ps.length :: .tuple #[] :: pt q1 :: iN .i64 k :: .bool false :: .bool false :: un :: un :: un :: un :: un :: un :: un :: un :: un :: un :: un :: un :: un :: un :: un :: un :: un :: un :: un :: un :: un :: un :: un :: un :: un :: un :: un :: .bool true :: .bool true :: pt b.p :: .pointer (some ⟨q1, 3, none⟩) :: .slice (some ⟨pb, 0, none⟩) ps.length ps.length :: .pointer (some ⟨pb, 3, none⟩) :: iN .i64 (ps.getD 3 0) :: iN .i64 x :: .pointer (some ⟨q1, 3, none⟩) :: .slice (some ⟨pb, 0, none⟩) ps.length ps.length :: pt pb :: iN .i64 (ps.getD 0 0) :: .slice (some ⟨g 10, 0, none⟩) 2 2 :: List.replicate 11 un).toArray, []⟩ : Act)) (G2 (HA z [(q1, 94, #[iN .i64 k, iN .i64 n, .string s, .slice (some ⟨pb, 0, none⟩) ps.length ps.length])]) (fun w' => WH z b m (ruleS st x ps) ((q1, 94, #[iN .i64 k, iN .i64 n, .string s, .slice (some ⟨pb, 0, none⟩) ps.length ps.length]) :: L) w') (fun nz w' => WH z b m (ruleS st x ps) ((nz, 3, intc [x, ps.getD 0 0]) :: ((q1, 94, #[iN .i64 k, iN .i64 n, .string s, .slice (some ⟨pb, 0, none⟩) ps.length ps.length]) :: L)) w') (fun nz w' => WH z b m (ruleS (ruleS st x ps) (ps.getD 3 0) [x, ps.getD 0 0]) ((nz, 3, intc [x, ps.getD 0 0]) :: ((q1, 94, #[iN .i64 k, iN .i64 n, .string s, .slice (some ⟨pb, 0, none⟩) ps.length ps.length]) :: L)) w') (fun i => ([[], [], [], [], [], [], [], [], [], [], [], [10]] : List (List Nat)).getD i []) 10 11) (fun d hd => G2.start (hW4.ha.sub (List.Sublist.cons_cons _ (List.nil_sublist _))).drew (WH.drew hW4) (hd 10 (by decide)) (hd 11 (by decide)) (Cl.start (n := 12) hd (by decide))) ?_ ?_
 ·refine zg (g2_read (v := fun g => .pointer (some ⟨b.p, 0, none⟩)) (by decide) (by decide) (by kernel_rfl) (fun _ => by kernel_rfl) (fun _ => by kernel_rfl) (fun g _ _ => (by kernel_rfl))) ?_
  refine zg (g2_read (v := fun g => .pointer (some ⟨q1, 3, none⟩)) (by decide) (by decide) (by kernel_rfl) (fun _ => by kernel_rfl) (fun _ => by kernel_rfl) (fun g _ _ => (by kernel_rfl))) ?_
  refine zg (g2_read (v := fun g => .slice (some ⟨pb, 0, none⟩) ps.length ps.length) (by decide) (by decide) (by kernel_rfl) (fun _ => by kernel_rfl) (fun _ => by kernel_rfl) (fun g w' h' => run_load1 Tryz.isAgg63 (((h'.get 0 rfl).cell 3).trans rfl))) ?_
  refine zg (g2_read (v := fun g => .pointer (some ⟨pb, 3, none⟩)) (by decide) (by decide) (by kernel_rfl) (fun _ => by kernel_rfl) (fun _ => by kernel_rfl) (fun g _ _ => (run_addr_slice (q := pb) (n := ps.length) (m := ps.length) (a := 3) Tryz.underlying63 Tryz.sizeOf3 (by omega)))) ?_
  refine zg (g2_read (v := fun g => iN .i64 (ps.getD 3 0)) (by decide) (by decide) (by kernel_rfl) (fun _ => by kernel_rfl) (fun _ => by kernel_rfl) (fun g w' h' => run_load1 Tryz.isAgg3 (((hpb.keep h'.old.old).cell 3).trans (intc_get ps 3 (by omega))))) ?_
  refine zg (g2_read (v := fun g => iN .i64 x) (by decide) (by decide) (by kernel_rfl) (fun _ => by kernel_rfl) (fun _ => by kernel_rfl) (fun g _ _ => (by kernel_rfl))) ?_
  refine zg (g2_read (v := fun g => .pointer (some ⟨q1, 3, none⟩)) (by decide) (by decide) (by kernel_rfl) (fun _ => by kernel_rfl) (fun _ => by kernel_rfl) (fun g _ _ => (by kernel_rfl))) ?_
  refine zg (g2_read (v := fun g => .slice (some ⟨pb, 0, none⟩) ps.length ps.length) (by decide) (by decide) (by kernel_rfl) (fun _ => by kernel_rfl) (fun _ => by kernel_rfl) (fun g w' h' => run_load1 Tryz.isAgg63 (((h'.get 0 rfl).cell 3).trans rfl))) ?_
  refine zg (g2_read (v := fun g => .pointer (some ⟨pb, 0, none⟩)) (by decide) (by decide) (by kernel_rfl) (fun _ => by kernel_rfl) (fun _ => by kernel_rfl) (fun g _ _ => (run_addr_slice (q := pb) (n := ps.length) (m := ps.length) (a := 0) Tryz.underlying63 Tryz.sizeOf3 (by omega)))) ?_
  refine zg (g2_read (v := fun g => iN .i64 (ps.getD 0 0)) (by decide) (by decide) (by kernel_rfl) (fun _ => by kernel_rfl) (fun _ => by kernel_rfl) (fun g w' h' => run_load1 Tryz.isAgg3 (((hpb.keep h'.old.old).cell 0).trans (intc_get ps 0 (by omega))))) ?_
  refine zg (g2_act0 (v := fun n => .slice (some ⟨n, 0, none⟩) 2 2) (by decide) (fun d hc hm => hm 10 (by decide)) (by kernel_rfl) (fun _ => by kernel_rfl) (fun _ _ => by kernel_rfl) (fun g w' hr h' => ⟨w'.heap.size, _, (by kernel_rfl : (execOp _ _).run Tryz.prog w' = .ok (.value (.slice (some ⟨w'.heap.size, 0, none⟩) 2 2)) (w'.alloc (.cells (intc [x, ps.getD 0 0]) 3))), (WH.make h' 3 (intc [x, ps.getD 0 0])).ha.sub (List.Sublist.cons _ (List.Sublist.cons_cons _ (List.nil_sublist _))), WH.make h' 3 (intc [x, ps.getD 0 0])⟩)) ?_
  refine zg (g2_call1 (v := .tuple #[]) (args := fun g => #[.pointer (some ⟨b.p, 0, none⟩), iN .i64 (ps.getD 3 0), .slice (some ⟨g 10, 0, none⟩) 2 2]) (fun d hc hm => hm 10 (by decide)) (by kernel_rfl) (fun _ => by kernel_rfl) (fun _ => by kernel_rfl) enter39 (fun _ => by kernel_rfl) (fun g w' hr h' => (rule_any h' hok6 (hps 3 (by omega)) hm [x, ps.getD 0 0] _ 2 (.inr ⟨g 10, intc [x, ps.getD 0 0], rfl, .inl (List.mem_cons_self ..), fun j hj => intc_get _ j hj⟩) (fun j hj => getD_lt (m := m) (by intro y hy; have := hps 0 (by omega); simp only [List.mem_cons, List.not_mem_nil, or_false] at hy; omega) (by omega) j) (by simp only [List.length_cons, List.length_nil]; omega)).mono (by rintro e w2 ⟨e1, e2⟩; exact ⟨e1, e2.ha.sub (List.Sublist.cons _ (List.Sublist.cons_cons _ (List.nil_sublist _))), e2⟩))) ?_
  exact AllGhost.nil
 intro g w7 gg8
 have h9 := gg8.held
 rw [if_pos rfl] at h9
 clear gg8
 generalize g 10 = n10 at h9 ⊢
 clear g
 have hW11 : WH z b m (ruleS (ruleS st x ps) (ps.getD 3 0) [x, ps.getD 0 0]) ((n10, 3, intc [x, ps.getD 0 0]) :: (q1, 94, #[iN .i64 k, iN .i64 n, .string s, .slice (some ⟨pb, 0, none⟩) ps.length ps.length]) :: L) w7 := h9
 refine block_normal ?_
 exact bodyPost_end (v := .tuple #[]) (by kernel_rfl) rfl ⟨rfl, by rw [madeS, if_neg (by omega), if_pos hk]; exact WH.sub hW11 (List.sublist_append_right [(n10, 3, intc [x, ps.getD 0 0]), (q1, 94, #[iN .i64 k, iN .i64 n, .string s, .slice (some ⟨pb, 0, none⟩) ps.length ps.length])] L)⟩
theorem made_sig {z : Base} {b : Wb} {m : Nat} {st : St} {L : BL} {w : World} (H : WH z b m st L w) (hok : Wok m st) (hm : m ≤ 100000) {t : Tb} {es : List Ent} (h : TV z.w t es) (hme : m = es.length) {x k n : Nat} {s : ByteArray} {ps : List Nat} {pb : Nat} (hx : x < m) (hpb : Blk z.w pb 3 (intc ps)) (hps : ∀ j, j < ps.length → ps.getD j 0 < m) (hpl : ps.length ≤ 100) (hs : siz st + 200 ≤ 1000000) (hk : k = 7) (hl : ps.length = 2) :
  Calls Tryz.prog 40 #[pt t.q, pt b.p, iN .i64 x, mkv k n s pb ps.length] w fun e w' => e = .returned (.tuple #[]) ∧ WH z b m (madeS es st x k n ps) L w' := by
 go_enter Tryz.func40, Tryz.ntmps40
 refine zsr ?_
 refine wl_makeW (c := #[iN .i64 k, iN .i64 n, .string s, .slice (some ⟨pb, 0, none⟩) ps.length ps.length]) H 94 ?_
 intro q1 w2 (hW3 : WH z b m st ((q1, 94, #[iN .i64 k, iN .i64 n, .string s, .slice (some ⟨pb, 0, none⟩) ps.length ps.length]) :: L) w2)
 refine znt ?_
 refine zsr ?_
 refine zwv (.pointer (some ⟨b.p, 0, none⟩)) ?_
 refine zwv (iN .i64 x) ?_
 refine zwv (.pointer (some ⟨q1, 3, none⟩)) ?_
 refine zwu (v := .slice (some ⟨pb, 0, none⟩) ps.length ps.length) (run_load1 Tryz.isAgg63 (((hW3.ha.get 0 rfl).cell 3).trans rfl)) ?_
 refine wl_callx enter39 #[.pointer (some ⟨b.p, 0, none⟩), iN .i64 x, .slice (some ⟨pb, 0, none⟩) ps.length ps.length] (rule_any hW3 hok hx hm ps _ ps.length (.inr ⟨pb, intc ps, rfl, .inr hpb, fun j hj => intc_get ps j hj⟩) (fun j hj => hps j hj) (by omega)) ?_
 rintro _ w5 ⟨rfl, hW4⟩
 refine ⟨_, rfl, ?_⟩
 have hok6 := ruleS_ok hok hx ps
 have hszhok6 := siz_rule st x ps
 refine znt ?_
 refine zsr ?_
 refine zwv (.pointer (some ⟨q1, 0, none⟩)) ?_
 refine zwu (v := iN .i64 k) (run_load1 Tryz.isAgg3 (((hW4.ha.get 0 rfl).cell 0).trans rfl)) ?_
 refine znt ?_
 refine wp_block ?_
 refine zsr ?_
 refine zwu (run_eqi (k := .i64) (a := k) (b := 4) false (ht := (decide_eq_false (by omega)))) ?_
 refine zwv (.bool false) ?_
 refine znt ?_
 refine zcf ?_
 refine zsr ?_
 refine zwu (run_eqi (k := .i64) (a := k) (b := 6) false (ht := (decide_eq_false (by omega)))) ?_
 refine zwv (.bool false) ?_
 refine znt ?_
 refine zcf ?_
 refine zsr ?_
 refine zwu (run_eqi (k := .i64) (a := k) (b := 7) true (ht := (decide_eq_true (by omega)))) ?_
 refine zwv (.bool true) ?_
 refine znt ?_
 refine zct ?_
 refine wl_region ?_
 refine zwv (.pointer (some ⟨b.p, 0, none⟩)) ?_
 refine zwv (.pointer (some ⟨q1, 3, none⟩)) ?_
 refine zwu (v := .slice (some ⟨pb, 0, none⟩) ps.length ps.length) (run_load1 Tryz.isAgg63 (((hW4.ha.get 0 rfl).cell 3).trans rfl)) ?_
 refine zwu (v := .pointer (some ⟨pb, 1, none⟩)) (run_addr_slice (q := pb) (n := ps.length) (m := ps.length) (a := 1) Tryz.underlying63 Tryz.sizeOf3 (by omega)) ?_
 refine zwu (v := iN .i64 (ps.getD 1 0)) (run_load1 Tryz.isAgg3 (((hpb.keep hW4.ha.old.old).cell 1).trans (intc_get ps 1 (by omega)))) ?_
 refine zwv (iN .i64 x) ?_
 refine wl_mksW (n := 1) (k := 1) (c := intc [x]) hW4 3 (by kernel_rfl) (by kernel_rfl) ?_
 intro q7 w8 (hW9 : WH z b m (ruleS st x ps) ((q7, 3, intc [x]) :: (q1, 94, #[iN .i64 k, iN .i64 n, .string s, .slice (some ⟨pb, 0, none⟩) ps.length ps.length]) :: L) w8)
 refine wl_callx enter39 #[.pointer (some ⟨b.p, 0, none⟩), iN .i64 (ps.getD 1 0), .slice (some ⟨q7, 0, none⟩) 1 1] (rule_any hW9 hok6 (hps 1 (by omega)) hm [x] _ 1 (.inr ⟨q7, intc [x], rfl, .inl (by simp), fun j hj => intc_get _ j hj⟩) (fun j hj => getD_lt (m := m) (by intro y hy; simp only [List.mem_cons, List.not_mem_nil, or_false] at hy; omega) (by omega) j) (by simp only [List.length_cons, List.length_nil]; omega)) ?_
 rintro _ w11 ⟨rfl, hW10⟩
 refine ⟨_, rfl, ?_⟩
 have hok12 := ruleS_ok hok6 (hps 1 (by omega)) [x]
 have hszhok12 := siz_rule (ruleS st x ps) (ps.getD 1 0) [x]
 refine wl_nil ?_
 refine block_normal ?_
 exact bodyPost_end (v := .tuple #[]) (by kernel_rfl) rfl ⟨rfl, by rw [madeS, if_neg (by omega), if_neg (by omega), if_pos hk]; exact WH.sub hW10 (List.sublist_append_right [(q7, 3, intc [x]), (q1, 94, #[iN .i64 k, iN .i64 n, .string s, .slice (some ⟨pb, 0, none⟩) ps.length ps.length])] L)⟩
theorem made_oth {z : Base} {b : Wb} {m : Nat} {st : St} {L : BL} {w : World} (H : WH z b m st L w) (hok : Wok m st) (hm : m ≤ 100000) {t : Tb} {es : List Ent} (h : TV z.w t es) (hme : m = es.length) {x k n : Nat} {s : ByteArray} {ps : List Nat} {pb : Nat} (hx : x < m) (hpb : Blk z.w pb 3 (intc ps)) (hps : ∀ j, j < ps.length → ps.getD j 0 < m) (hpl : ps.length ≤ 100) (hs : siz st + 200 ≤ 1000000) (hk : k ≠ 4 ∧ k ≠ 6 ∧ k ≠ 7) :
  Calls Tryz.prog 40 #[pt t.q, pt b.p, iN .i64 x, mkv k n s pb ps.length] w fun e w' => e = .returned (.tuple #[]) ∧ WH z b m (madeS es st x k n ps) L w' := by
 go_enter Tryz.func40, Tryz.ntmps40
 refine zsr ?_
 refine wl_makeW (c := #[iN .i64 k, iN .i64 n, .string s, .slice (some ⟨pb, 0, none⟩) ps.length ps.length]) H 94 ?_
 intro q1 w2 (hW3 : WH z b m st ((q1, 94, #[iN .i64 k, iN .i64 n, .string s, .slice (some ⟨pb, 0, none⟩) ps.length ps.length]) :: L) w2)
 refine znt ?_
 refine zsr ?_
 refine zwv (.pointer (some ⟨b.p, 0, none⟩)) ?_
 refine zwv (iN .i64 x) ?_
 refine zwv (.pointer (some ⟨q1, 3, none⟩)) ?_
 refine zwu (v := .slice (some ⟨pb, 0, none⟩) ps.length ps.length) (run_load1 Tryz.isAgg63 (((hW3.ha.get 0 rfl).cell 3).trans rfl)) ?_
 refine wl_callx enter39 #[.pointer (some ⟨b.p, 0, none⟩), iN .i64 x, .slice (some ⟨pb, 0, none⟩) ps.length ps.length] (rule_any hW3 hok hx hm ps _ ps.length (.inr ⟨pb, intc ps, rfl, .inr hpb, fun j hj => intc_get ps j hj⟩) (fun j hj => hps j hj) (by omega)) ?_
 rintro _ w5 ⟨rfl, hW4⟩
 refine ⟨_, rfl, ?_⟩
 have hok6 := ruleS_ok hok hx ps
 have hszhok6 := siz_rule st x ps
 refine znt ?_
 refine zsr ?_
 refine zwv (.pointer (some ⟨q1, 0, none⟩)) ?_
 refine zwu (v := iN .i64 k) (run_load1 Tryz.isAgg3 (((hW4.ha.get 0 rfl).cell 0).trans rfl)) ?_
 refine znt ?_
 refine wp_block ?_
 refine zsr ?_
 refine zwu (run_eqi (k := .i64) (a := k) (b := 4) false (ht := (decide_eq_false (by omega)))) ?_
 refine zwv (.bool false) ?_
 refine znt ?_
 refine zcf ?_
 refine zsr ?_
 refine zwu (run_eqi (k := .i64) (a := k) (b := 6) false (ht := (decide_eq_false (by omega)))) ?_
 refine zwv (.bool false) ?_
 refine znt ?_
 refine zcf ?_
 refine zsr ?_
 refine zwu (run_eqi (k := .i64) (a := k) (b := 7) false (ht := (decide_eq_false (by omega)))) ?_
 refine zwv (.bool false) ?_
 refine znt ?_
 refine zcf ?_
 refine wp_skip ?_
 refine block_normal ?_
 exact bodyPost_end (v := .tuple #[]) (by kernel_rfl) rfl ⟨rfl, by rw [madeS, if_neg (by omega), if_neg (by omega), if_neg (by omega)]; exact WH.sub hW4 (List.sublist_append_right [(q1, 94, #[iN .i64 k, iN .i64 n, .string s, .slice (some ⟨pb, 0, none⟩) ps.length ps.length])] L)⟩
end Go.Proofs.YtihfeoanognonaaGreat
