/-
  FieldRoots: the walk.
-/
import Derived.Test.YtbmfmamhidccbaaDoorRootI
namespace Go.Proofs.YtbmfmamhidccbaaDoor
open Go.RowKit Num

section
variable {k a0 t0 B : Nat} {t : Nat → TypeId} {z : Nat → Array Value} {val : Nat → Array Value} {g : Nat → Nat} {d : Nat → Bool} {w : World} {w0 : World} {L : List (Nat × TypeId × Array Value)}
/-- k variables that a region makes: number a0 + j makes the j-th, number t0 + j fills it -/
structure NewW (k a0 t0 B : Nat) (t : Nat → TypeId) (z : Nat → Array Value) (val : Nat → Array Value) (g : Nat → Nat) (d : Nat → Bool) (w : World) : Prop where
  own : ∀ j, j < k → d (a0 + j) = true → B ≤ g (a0 + j) ∧ Blk w (g (a0 + j)) (t j) (if d (t0 + j) = true then val j else z j)
  ne : ∀ i j, i < k → j < k → i ≠ j → d (a0 + i) = true → d (a0 + j) = true → g (a0 + i) ≠ g (a0 + j)
  imp : ∀ j, j < k → d (t0 + j) = true → d (a0 + j) = true


theorem NewW.start (hd : ∀ j, j < t0 + k → d j = false) (hat : a0 + k ≤ t0) : NewW k a0 t0 B t z val g d w :=
  ⟨fun j hj h => absurd h (by rw [hd _ (by omega)]; decide), fun i j hi hj _ h => absurd h (by rw [hd _ (by omega)]; decide), fun j hj h => absurd h (by rw [hd _ (by omega)]; decide)⟩
theorem NewW.keep (h : NewW k a0 t0 B t z val g d w) {i : Nat} (hi : ∀ j, j < k → i ≠ a0 + j ∧ i ≠ t0 + j) {w' : World} (hb : Below w.heap.size w w') : NewW k a0 t0 B t z val g (up d i true) w' := by
  have e1 : ∀ j, j < k → up d i true (a0 + j) = d (a0 + j) := fun j hj => up_ne _ _ (Ne.symm (hi j hj).1)
  have e2 : ∀ j, j < k → up d i true (t0 + j) = d (t0 + j) := fun j hj => up_ne _ _ (Ne.symm (hi j hj).2)
  refine ⟨fun j hj h1 => ?_, fun i j hi hj hne h1 h2 => ?_, fun j hj h1 => ?_⟩
  · rw [e1 j hj] at h1
    rw [e2 j hj]
    exact ⟨(h.own j hj h1).1, (h.own j hj h1).2.keep hb⟩
  · rw [e1 i hi] at h1
    rw [e1 j hj] at h2
    exact h.ne i j hi hj hne h1 h2
  · rw [e1 j hj]; rw [e2 j hj] at h1
    exact h.imp j hj h1
theorem NewW.make (h : NewW k a0 t0 B t z val g d w) (hat : a0 + k ≤ t0) {i j : Nat} (hj : j < k) (hi : i = a0 + j) (hd : d i = false) (hB : B ≤ w.heap.size) :
    NewW k a0 t0 B t z val (up g i w.heap.size) (up d i true) (w.alloc (.cells (z j) (t j))) := by
  subst hi
  have e1 : ∀ m, m ≠ j → up d (a0 + j) true (a0 + m) = d (a0 + m) := fun m hm => up_ne _ _ (by omega)
  have e2 : ∀ m, up d (a0 + j) true (t0 + m) = d (t0 + m) := fun m => up_ne _ _ (by omega)
  have e3 : ∀ m, m ≠ j → up g (a0 + j) w.heap.size (a0 + m) = g (a0 + m) := fun m hm => up_ne _ _ (by omega)
  have lt : ∀ m, m < k → d (a0 + m) = true → g (a0 + m) < w.heap.size := fun m hm h1 => (h.own m hm h1).2.lt
  have hT : d (t0 + j) = false := by
    cases ht : d (t0 + j) with
    | false => rfl
    | true => rw [h.imp j hj ht] at hd; cases hd
  refine ⟨fun m hm h1 => ?_, fun m n hm hn hne h1 h2 => ?_, fun m hm h1 => ?_⟩
  · by_cases hmj : m = j
    · subst hmj
      rw [up_at, e2, hT]
      exact ⟨hB, Blk.new w (t m) (z m)⟩
    · rw [e1 m hmj] at h1
      rw [e2, e3 m hmj]
      exact ⟨(h.own m hm h1).1, (h.own m hm h1).2.alloc _⟩
  · by_cases hmj : m = j
    · subst hmj
      rw [e1 n (Ne.symm hne)] at h2
      rw [up_at, e3 n (Ne.symm hne)]
      have := lt n hn h2
      omega
    · rw [e1 m hmj] at h1
      rw [e3 m hmj]
      by_cases hnj : n = j
      · subst hnj
        rw [up_at]
        have := lt m hm h1
        omega
      · rw [e1 n hnj] at h2
        rw [e3 n hnj]
        exact h.ne m n hm hn hne h1 h2
  · rw [e2] at h1
    by_cases hmj : m = j
    · subst hmj; exact up_at _ _ _
    · rw [e1 m hmj]; exact h.imp m hm h1
theorem NewW.fill (h : NewW k a0 t0 B t z val g d w) (hat : a0 + k ≤ t0) {i j : Nat} (hj : j < k) (hi : i = t0 + j) (hd : d i = false) (ha : d (a0 + j) = true) (hs : (val j).size = (z j).size) :
    NewW k a0 t0 B t z val g (up d i true) (w.setCells (g (a0 + j)) 0 (val j).toList) := by
  subst hi
  have e1 : ∀ m, m < k → up d (t0 + j) true (a0 + m) = d (a0 + m) := fun m hm => up_ne _ _ (by omega)
  have e2 : ∀ m, m ≠ j → up d (t0 + j) true (t0 + m) = d (t0 + m) := fun m hm => up_ne _ _ (by omega)
  refine ⟨fun m hm h1 => ?_, fun m n hm hn hne h1 h2 => ?_, fun m hm h1 => ?_⟩
  · rw [e1 m hm] at h1
    refine ⟨(h.own m hm h1).1, ?_⟩
    by_cases hmj : m = j
    · subst hmj
      rw [up_at, if_pos rfl]
      have := (h.own m hm h1).2
      rw [hd, if_neg (by decide)] at this
      exact this.whole hs
    · rw [e2 m hmj]
      exact Blk.fars (h.ne m j hm hj hmj h1 ha) _ _ _ (h.own m hm h1).2
  · rw [e1 m hm] at h1
    rw [e1 n hn] at h2
    exact h.ne m n hm hn hne h1 h2
  · rw [e1 m hm]
    by_cases hmj : m = j
    · subst hmj; exact ha
    · rw [e2 m hmj] at h1
      exact h.imp m hm h1

/-- what a region that makes k variables holds: old memory, blocks, the variables -/
structure GT (w0 : World) (L : List (Nat × TypeId × Array Value)) (B : Nat) (k a0 t0 : Nat) (t : Nat → TypeId) (z : Nat → Array Value) (val : Nat → Array Value) (g : Nat → Nat) (d : Nat → Bool) (w : World) : Prop where
  held : HA w0 L w
  big : B ≤ w.heap.size
  low : w0.heap.size ≤ B
  lt : ∀ x ∈ L, x.1 < B
  new : NewW k a0 t0 B t z val g d w
  hat : a0 + k ≤ t0
  siz : ∀ j, j < k → (val j).size = (z j).size
theorem GT.call (h : GT w0 L B k a0 t0 t z val g d w) {i : Nat} (hi : ∀ j, j < k → i ≠ a0 + j ∧ i ≠ t0 + j) {w' : World} (hb : Below w.heap.size w w') : GT w0 L B k a0 t0 t z val g (up d i true) w' :=
  ⟨h.held.keep _ _ hb, Nat.le_trans h.big hb.size, h.low, h.lt, h.new.keep hi hb, h.hat, h.siz⟩
theorem GT.load (h : GT w0 L B k a0 t0 t z val g d w) {i : Nat} (hi : ∀ j, j < k → i ≠ a0 + j ∧ i ≠ t0 + j) : GT w0 L B k a0 t0 t z val g (up d i true) w := h.call hi (Below.refl _ w)
theorem GT.make (h : GT w0 L B k a0 t0 t z val g d w) {i j : Nat} (hj : j < k) (hi : i = a0 + j) (hd : d i = false) :
    GT w0 L B k a0 t0 t z val (up g i w.heap.size) (up d i true) (w.alloc (.cells (z j) (t j))) :=
  ⟨⟨h.held.old.alloc h.held.old.size _, fun x hx => (h.held.blk x hx).alloc _, h.held.own, h.held.nd⟩, by have := h.big; simp; omega, h.low, h.lt, h.new.make h.hat hj hi hd h.big, h.hat, h.siz⟩
theorem GT.fill (h : GT w0 L B k a0 t0 t z val g d w) {i j : Nat} (hj : j < k) (hi : i = t0 + j) (hd : d i = false) (ha : d (a0 + j) = true) :
    GT w0 L B k a0 t0 t z val g (up d i true) (w.setCells (g (a0 + j)) 0 (val j).toList) := by
  have hB := (h.new.own j hj ha).1
  exact ⟨⟨below_setCells (Nat.le_trans h.low hB) _ _ h.held.old, fun x hx => Blk.fars (by have := h.lt x hx; omega) _ _ _ (h.held.blk x hx), h.held.own, h.held.nd⟩, by rw [setCells_size]; exact h.big, h.low, h.lt, h.new.fill h.hat hj hi hd ha (h.siz j hj), h.hat, h.siz⟩
theorem GT.start (h : HA w0 L w) (hB : B = w.heap.size) (hat : a0 + k ≤ t0) (siz : ∀ j, j < k → (val j).size = (z j).size) (hd : ∀ j, j < t0 + k → d j = false) : GT w0 L B k a0 t0 t z val g d w :=
  ⟨h, by omega, by have := h.size; omega, fun x hx => by have := (h.blk x hx).lt; omega, NewW.start hd hat, hat, siz⟩
/-- one more of the variables -/
theorem GT.more {M : List (Nat × TypeId × Array Value)} (h : GT w0 L B k a0 t0 t z val g (fun _ => true) w) (j : Nat) (hj : j < k) (hM : HA w0 M w) (hL : ∀ x ∈ M, x ∈ L ∨ ∃ i, i < j ∧ x.1 = g (a0 + i)) : HA w0 ((g (a0 + j), t j, val j) :: M) w := by
  have h1 := h.new.own j hj rfl
  refine ⟨hM.old, fun x hx => ?_, fun x hx => ?_, ?_⟩
  · rcases List.mem_cons.1 hx with rfl | hx
    · exact h1.2
    · exact hM.blk x hx
  · rcases List.mem_cons.1 hx with rfl | hx
    · exact Nat.le_trans h.low h1.1
    · exact hM.own x hx
  · rw [List.map_cons, List.nodup_cons]
    refine ⟨fun hm => ?_, hM.nd⟩
    obtain ⟨x, hx, e⟩ := List.mem_map.1 hm
    simp only at e
    rcases hL x hx with hx | ⟨i, hi, hxi⟩
    · have := h.lt x hx
      omega
    · rw [hxi] at e
      exact h.new.ne i j (by omega) hj (by omega) rfl rfl e
theorem GT.one (h : GT w0 L B 1 a0 t0 t z val g (fun _ => true) w) : HA w0 ((g (a0 + 0), t 0, val 0) :: L) w := h.more 0 (by decide) h.held fun _ hx => .inl hx
theorem GT.two (h : GT w0 L B 2 a0 t0 t z val g (fun _ => true) w) : HA w0 ((g (a0 + 1), t 1, val 1) :: (g (a0 + 0), t 0, val 0) :: L) w :=
  h.more 1 (by decide) (h.more 0 (by decide) h.held fun _ hx => .inl hx) fun x hx => by
    rcases List.mem_cons.1 hx with rfl | hx
    · exact .inr ⟨0, by decide, rfl⟩
    · exact .inl hx
end
/-! whole loads, new variables and their filling, words without world, in a region that makes variables -/
section
variable {ops : Array Oper} {Q : Exit → Act → World → Prop} {F : (Nat → Nat) → Act} {md : Region.Mode} {i : Nat} {dst : Option Tmp} {ty ty' : TypeId} {pos : String} {aft : Array Edge} {gd : Option (Nat × Bool)}
  {w0 : World} {L : List (Nat × TypeId × Array Value)} {B : Nat} {k a0 t0 : Nat} {t : Nat → TypeId} {z : Nat → Array Value} {val : Nat → Array Value}
theorem gt_load {x : Operand} {D : TypeDesc} {e : Nat × TypeId × Array Value} (j : Nat) (hj : L[j]? = some e) (hi : ∀ m, m < k → i ≠ a0 + m ∧ i ≠ t0 + m)
    (hw : ∀ g, Region.wanted ⟨dst, .load ty x, ty', pos, aft, gd⟩ (yielded ops (F g).tmps) = true) (hp : ∀ g, (F g).put dst (.agg e.2.2) = F g) (hx : ∀ g, (F g).eval x = .pointer (some ⟨e.1, 0, none⟩))
    (hu : Tryd.prog.underlying ty = some D) (hd : D.isRow = true) (hz : (Tryd.prog.info? ty).map (·.size) = some e.2.2.size) :
    OpGhost Tryd.prog md ops Q (GT w0 L B k a0 t0 t z val) F i ⟨dst, .load ty x, ty', pos, aft, gd⟩ :=
  OpGhost.take (v := fun _ => .agg e.2.2) hw hp (fun g _ _ h _ => ⟨run_load_blk (hx g) (h.held.get j hj) hu hd hz, h.load hi⟩)
theorem gt_plain {o : Oper} {v : Value} (hi : ∀ m, m < k → i ≠ a0 + m ∧ i ≠ t0 + m) (hw : ∀ g, Region.wanted o (yielded ops (F g).tmps) = true) (hp : ∀ g, (F g).put o.dst v = F g)
    (hr : ∀ g w, (execOp (F g).eval o).run Tryd.prog w = .ok (.value v) w) : OpGhost Tryd.prog md ops Q (GT w0 L B k a0 t0 t z val) F i o :=
  OpGhost.take (v := fun _ => v) hw hp (fun g _ w h _ => ⟨hr g w, h.load hi⟩)
theorem gt_call {f : FuncId} {xs : Array Operand} {ats : Array TypeId} {v : Value} (hi : ∀ m, m < k → i ≠ a0 + m ∧ i ≠ t0 + m)
    (hw : ∀ g, Region.wanted ⟨dst, .call { callee := .value (.func f), args := xs, argTypes := ats }, ty, pos, aft, gd⟩ (yielded ops (F g).tmps) = true) (hp : ∀ g, (F g).put dst v = F g)
    (hr : ∀ args w, (callFunc f args).run Tryd.prog w = .ok (.enter f args) w) (args : Array Value) (ha : ∀ g, #[] ++ xs.map (F g).eval ++ #[] = args)
    (hc : ∀ w, HA w0 L w → Calls Tryd.prog f args w fun e w' => e = .returned v ∧ Below w.heap.size w w') :
    OpGhost Tryd.prog md ops Q (GT w0 L B k a0 t0 t z val) F i ⟨dst, .call { callee := .value (.func f), args := xs, argTypes := ats }, ty, pos, aft, gd⟩ :=
  OpGhost.call (v := fun _ => v) (args := fun _ => args) hw hp (fun g w => by rw [execOp_call_go, ha g]; exact hr _ w) (fun _ _ w hS _ => (hc w hS.held).mono fun _ _ h => ⟨h.1, hS.call hi h.2⟩)
theorem gt_make (j : Nat) (hty : t j = ty) (hj : j < k) (hi : i = a0 + j)
    (hw : ∀ g, Region.wanted ⟨dst, .alloc ty, ty', pos, aft, gd⟩ (yielded ops (F g).tmps) = true) (hp : ∀ g (m : Nat), (F g).put dst (.pointer (some ⟨m, 0, none⟩)) = F (up g i m))
    (hr : ∀ (ρ : Operand → Value) (w : World), (execOp ρ ⟨dst, .alloc ty, ty', pos, aft, gd⟩).run Tryd.prog w = .ok (.value (.pointer (some ⟨w.heap.size, 0, none⟩))) (w.alloc (.cells (z j) ty))) :
    OpGhost Tryd.prog md ops Q (GT w0 L B k a0 t0 t z val) F i ⟨dst, .alloc ty, ty', pos, aft, gd⟩ :=
  OpGhost.act (v := fun _ w => .pointer (some ⟨w.heap.size, 0, none⟩)) (n := fun _ w => w.heap.size) (W := fun _ w => w.alloc (.cells (z j) ty)) hw (fun g w => hp g w.heap.size) (fun _ _ w h hd _ => ⟨hr _ w, hty ▸ h.make hj hi hd⟩)
theorem gt_fill {x y : Operand} (j : Nat) (hj : j < k) (hi : i = t0 + j)
    (hw : ∀ g, Region.wanted ⟨dst, .store ty x y, ty', pos, aft, gd⟩ (yielded ops (F g).tmps) = true) (hp : ∀ g, (F g).put dst undef = F g)
    (hx : ∀ g, (F g).eval x = .pointer (some ⟨g (a0 + j), 0, none⟩)) (hy : ∀ g, (F g).eval y = .agg (val j)) (hz : (Tryd.prog.info? ty).map (·.size) = some (val j).size) (h1 : (val j).all (·.oneCell') = true)
    (he : (aft.any fun e => Region.binds .any e && e.on == a0 + j) = true) :
    OpGhost Tryd.prog .any ops Q (GT w0 L B k a0 t0 t z val) F i ⟨dst, .store ty x y, ty', pos, aft, gd⟩ :=
  OpGhost.skips (W := fun g w => w.setCells (g (a0 + j)) 0 (val j).toList) hw hp (fun g d w h hd haft => by
    obtain ⟨m, hm, h3⟩ := Array.any_eq_true.1 he
    rw [Bool.and_eq_true, beq_iff_eq] at h3
    have ha : d (a0 + j) = true := by rw [← h3.2]; exact haft _ (Array.getElem_mem hm) h3.1
    have hb := (h.new.own j hj ha).2
    have hT : d (t0 + j) = false := hi ▸ hd
    rw [hT, if_neg (by decide)] at hb
    exact ⟨run_store_blk (hx g) (hy g) hb (h.siz j hj) hz h1, h.fill hj hi hd ha⟩)
end


def twoT : Nat → TypeId
  | 0 => 26
  | _ => 30
def twoC (x y : Array Value) : Nat → Array Value
  | 0 => x
  | _ => y
theorem twoC_size (a : Nat) : ∀ j, j < 2 → (twoC (el a) (rl a) j).size = (twoC (el 0) (rl 0) j).size
  | 0, _ => rfl
  | 1, _ => rl_sz a 0
set_option linter.unusedVariables false in
set_option maxRecDepth 100000 in
set_option maxHeartbeats 4000000 in
theorem roots_yes (c0 : Array Value) (a : Nat) (hz0 : c0.size = 32) (ha : a < P) (r : Nat) (hr : rootP a = some r) (hrP : r < P)
    (KA : ∀ w, Vars w → Calls Tryd.prog 20 #[.agg c0] w fun e w' => e = .returned (arr a) ∧ Below w.heap.size w w')
    (RA : ∀ w, Calls Tryd.prog 21 #[.agg c0] w fun e w' => e = .returned (rarr a) ∧ Below w.heap.size w w') (w : World) (V : Vars w) :
    Calls Tryd.prog 5 #[.agg c0] w fun e w' => e = .returned (.bool true) ∧ Below w.heap.size w w' := by
  have VV := hide V
  have H0 := HA.start w
  clear V
  go_enter Tryd.func5, Tryd.ntmps5
  refine wp_seq ?_
  -- region 0
  refine wl_region ?_
  refine wl_make H0 40 (by kernel_rfl) (run_box40 (c := c0) (by kernel_rfl)) ?_
  intro q1 w2 h3
  refine wl_val (.bool false) (by kernel_rfl) (by kernel_rfl) ?_
  refine wl_nil ?_
  refine then_at (F := ⟨(.agg c0 :: pt q1 :: .bool false :: List.replicate 42 un).toArray, []⟩) (by kernel_rfl) ?_
  refine wp_seq ?_
  -- region 1
  obtain ⟨B4, eB4⟩ : ∃ B, B = w2.heap.size := ⟨_, rfl⟩
  refine wp_region_ghost (fun g : Nat → Nat => (⟨(.agg c0 :: pt q1 :: .bool false :: pt (g 4) :: pt (g 5) :: un :: un :: un :: un :: .agg c0 :: arr a :: .agg c0 :: rarr a :: List.replicate 32 un).toArray, []⟩ : Act)) (GT w [(q1, 40, c0)] B4 2 4 6 twoT (twoC (el 0) (rl 0)) (twoC (el a) (rl a))) [.agg c0, arr a, .agg c0, rarr a, .pointer (some ⟨0, 0, none⟩), .pointer (some ⟨0, 0, none⟩), undef, undef] (by kernel_rfl) (by kernel_rfl) (by kernel_rfl) (by kernel_rfl) (fun _ _ _ _ h => h) (fun d hd => GT.start h3.drew eB4 (by decide) (twoC_size a) (fun j hj => hd j (Nat.lt_of_lt_of_le hj (by decide)))) ?_ ?_
  · refine AllGhost.cons (gt_load 0 rfl (by decide) (fun _ => by kernel_rfl) (fun _ => by kernel_rfl) (fun _ => by kernel_rfl) Tryd.underlying40 rfl (by show _ = some c0.size; rw [hz0]; exact info40)) ?_
    refine AllGhost.cons (gt_call (v := arr a) (by decide) (fun _ => by kernel_rfl) (fun _ => by kernel_rfl) enter20 #[.agg c0] (fun _ => by kernel_rfl) (fun w' h' => KA w' (VV.out.below h'.old VV.out.big))) ?_
    refine AllGhost.cons (gt_load 0 rfl (by decide) (fun _ => by kernel_rfl) (fun _ => by kernel_rfl) (fun _ => by kernel_rfl) Tryd.underlying40 rfl (by show _ = some c0.size; rw [hz0]; exact info40)) ?_
    refine AllGhost.cons (gt_call (v := rarr a) (by decide) (fun _ => by kernel_rfl) (fun _ => by kernel_rfl) enter21 #[.agg c0] (fun _ => by kernel_rfl) (fun w' h' => RA w')) ?_
    refine AllGhost.cons (gt_make 0 rfl (by decide) rfl (fun _ => by kernel_rfl) (fun _ _ => by kernel_rfl) (fun _ _ => run_alloc26)) ?_
    refine AllGhost.cons (gt_make 1 rfl (by decide) rfl (fun _ => by kernel_rfl) (fun _ _ => by kernel_rfl) (fun _ _ => run_alloc30)) ?_
    refine AllGhost.cons (gt_fill 0 (by decide) rfl (fun _ => by kernel_rfl) (fun _ => by kernel_rfl) (fun _ => by kernel_rfl) (fun _ => by kernel_rfl) info26 (one_el _) (by kernel_rfl)) ?_
    refine AllGhost.cons (gt_fill 1 (by decide) rfl (fun _ => by kernel_rfl) (fun _ => by kernel_rfl) (fun _ => by kernel_rfl) (fun _ => by kernel_rfl) (info_rl _) (one_rl _) (by kernel_rfl)) ?_
    exact AllGhost.nil
  intro g w5 g6
  have h7 : HA w [(g 5, 30, rl a), (g 4, 26, el a), (q1, 40, c0)] w5 := g6.two
  clear g6 eB4
  generalize g 4 = q8 at h7 ⊢
  generalize g 5 = q9 at h7 ⊢
  clear g
  refine then_at (F := ⟨(.agg c0 :: pt q1 :: .bool false :: pt q8 :: pt q9 :: un :: un :: un :: un :: .agg c0 :: arr a :: .agg c0 :: rarr a :: List.replicate 32 un).toArray, []⟩) (by kernel_rfl) ?_
  refine wp_seq ?_
  -- region 2
  refine wl_region ?_
  refine wl_load h7 1 rfl (by kernel_rfl) (by kernel_rfl) Tryd.underlying26 rfl info26 ?_
  refine wl_call (v := .tuple #[arr r, .bool true]) h7 (by kernel_rfl) enter31 #[arr a] (by kernel_rfl) (Root_yes rfl ha hr w5 (VV.out.below h7.old VV.out.big)) ?_
  intro w10 h11
  refine wl_val (.tuple #[arr r, .bool true]) (by kernel_rfl) (by kernel_rfl) ?_
  refine wl_val (arr r) (by kernel_rfl) (by kernel_rfl) ?_
  refine wl_val (.bool true) (by kernel_rfl) (by kernel_rfl) ?_
  refine wl_make h11 26 (by kernel_rfl) run_alloc26 ?_
  intro q12 w13 h14
  refine wl_fill (c' := el r) h14 0 rfl (by kernel_rfl) (by kernel_rfl) (by kernel_rfl) rfl info26 (one_el _) ?_
  intro w15 (h16 : HA w [(q12, 26, el r), (q9, 30, rl a), (q8, 26, el a), (q1, 40, c0)] w15)
  refine wl_val (.bool true) (by kernel_rfl) (by kernel_rfl) ?_
  refine wl_nil ?_
  refine then_at (F := ⟨(.agg c0 :: pt q1 :: .bool false :: pt q8 :: pt q9 :: pt q12 :: .bool true :: un :: un :: .agg c0 :: arr a :: .agg c0 :: rarr a :: .tuple #[arr r, .bool true] :: arr a :: .tuple #[arr r, .bool true] :: arr r :: .bool true :: List.replicate 27 un).toArray, []⟩) (by kernel_rfl) ?_
  refine wp_seq ?_
  -- region 3
  refine wl_region ?_
  refine wl_load h16 1 rfl (by kernel_rfl) (by kernel_rfl) Tryd.underlying30 rfl (info_rl _) ?_
  refine wl_call (v := .tuple #[rarr r, .bool true]) h16 (by kernel_rfl) enter32 #[rarr a] (by kernel_rfl) (rroot_yes a r ha hr w15) ?_
  intro w17 h18
  refine wl_val (.tuple #[rarr r, .bool true]) (by kernel_rfl) (by kernel_rfl) ?_
  refine wl_val (rarr r) (by kernel_rfl) (by kernel_rfl) ?_
  refine wl_val (.bool true) (by kernel_rfl) (by kernel_rfl) ?_
  refine wl_make h18 30 (by kernel_rfl) run_alloc30 ?_
  intro q19 w20 h21
  refine wl_fill (c' := rl r) h21 0 rfl (by kernel_rfl) (by kernel_rfl) (by kernel_rfl) (rl_sz _ _) (info_rl _) (one_rl _) ?_
  intro w22 (h23 : HA w [(q19, 30, rl r), (q12, 26, el r), (q9, 30, rl a), (q8, 26, el a), (q1, 40, c0)] w22)
  refine wl_val (.bool true) (by kernel_rfl) (by kernel_rfl) ?_
  refine wl_nil ?_
  refine then_at (F := ⟨(.agg c0 :: pt q1 :: .bool false :: pt q8 :: pt q9 :: pt q12 :: .bool true :: pt q19 :: .bool true :: .agg c0 :: arr a :: .agg c0 :: rarr a :: .tuple #[arr r, .bool true] :: arr a :: .tuple #[arr r, .bool true] :: arr r :: .bool true :: .tuple #[rarr r, .bool true] :: rarr a :: .tuple #[rarr r, .bool true] :: rarr r :: .bool true :: List.replicate 22 un).toArray, []⟩) (by kernel_rfl) ?_
  refine wp_seq ?_
  -- region 4
  refine wp_region_sure ⟨(.agg c0 :: pt q1 :: .bool true :: pt q8 :: pt q9 :: pt q12 :: .bool true :: pt q19 :: .bool true :: .agg c0 :: arr a :: .agg c0 :: rarr a :: .tuple #[arr r, .bool true] :: arr a :: .tuple #[arr r, .bool true] :: arr r :: .bool true :: .tuple #[rarr r, .bool true] :: rarr a :: .tuple #[rarr r, .bool true] :: rarr r :: .bool true :: arr a :: arr (invE a) :: .string (bytesOf (invE a)) :: rarr a :: rarr (invE a) :: .string (bytesOf (invE a)) :: .bool true :: .bool true :: .bool true :: .bool true :: .bool true :: .bool true :: .bool true :: arr r :: .string (bytesOf r) :: rarr r :: .string (bytesOf r) :: .bool true :: .bool true :: .bool true :: .bool true :: .bool true :: List.replicate 0 un).toArray, []⟩ (HA w [(q19, 30, rl r), (q12, 26, el r), (q9, 30, rl a), (q8, 26, el a), (q1, 40, c0)]) [arr a, arr (invE a), .string (bytesOf (invE a)), rarr a, rarr (invE a), .string (bytesOf (invE a)), .bool true, .bool true, .bool true, .bool true, .bool true, .bool true, .bool true, arr r, .string (bytesOf r), rarr r, .string (bytesOf r), .bool true, .bool true, .bool true, .bool true, .bool true, .bool true] (by kernel_rfl) (by kernel_rfl) (by kernel_rfl) (by kernel_rfl) (fun _ _ _ h => h) h23.drew ?_ ?_
  · refine AllSure.cons (OpSure.take (v := arr a) (by kernel_rfl) (by kernel_rfl) (fun _ h => run_load_blk (by kernel_rfl) (h.get 3 rfl) Tryd.underlying26 rfl info26)) ?_
    refine AllSure.cons (sure_call (v := arr (invE a)) (by kernel_rfl) (by kernel_rfl) enter33 HA.keep #[arr a] (by kernel_rfl) (fun w' h' => Inv_any a ha w' (VV.out.below h'.old VV.out.big))) ?_
    refine AllSure.cons (sure_call (v := .string (bytesOf (invE a))) (by kernel_rfl) (by kernel_rfl) enter13 HA.keep #[arr (invE a)] (by kernel_rfl) (fun w' h' => Bytes_any (invE a) w')) ?_
    refine AllSure.cons (OpSure.take (v := rarr a) (by kernel_rfl) (by kernel_rfl) (fun _ h => run_load_blk (by kernel_rfl) (h.get 2 rfl) Tryd.underlying30 rfl (info_rl _))) ?_
    refine AllSure.cons (sure_call (v := rarr (invE a)) (by kernel_rfl) (by kernel_rfl) enter34 HA.keep #[rarr a] (by kernel_rfl) (fun w' h' => rinv_any a ha w')) ?_
    refine AllSure.cons (sure_call (v := .string (bytesOf (invE a))) (by kernel_rfl) (by kernel_rfl) enter14 HA.keep #[rarr (invE a)] (by kernel_rfl) (fun w' h' => rbytes_any (invE a) w')) ?_
    refine AllSure.cons (OpSure.take (v := .bool true) (by kernel_rfl) (by kernel_rfl) (fun _ _ => (run_eqs (s := bytesOf (invE a)) (t := bytesOf (invE a)) (by kernel_rfl) (by kernel_rfl) true (decide_eq_true rfl)))) ?_
    refine AllSure.cons (OpSure.take (v := .bool true) (by kernel_rfl) (by kernel_rfl) (fun _ _ => (by kernel_rfl))) ?_
    refine AllSure.cons (OpSure.take (v := .bool true) (by kernel_rfl) (by kernel_rfl) (fun _ _ => (by kernel_rfl))) ?_
    refine AllSure.cons (OpSure.take (v := .bool true) (by kernel_rfl) (by kernel_rfl) (fun _ _ => (by kernel_rfl))) ?_
    refine AllSure.cons (OpSure.take (v := .bool true) (by kernel_rfl) (by kernel_rfl) (fun _ _ => (run_eqb true true (by kernel_rfl) (by kernel_rfl)))) ?_
    refine AllSure.cons (OpSure.take (v := .bool true) (by kernel_rfl) (by kernel_rfl) (fun _ _ => (by kernel_rfl))) ?_
    refine AllSure.cons (OpSure.take (v := .bool true) (by kernel_rfl) (by kernel_rfl) (fun _ _ => (by kernel_rfl))) ?_
    refine AllSure.cons (OpSure.take (v := arr r) (by kernel_rfl) (by kernel_rfl) (fun _ h => run_load_blk (by kernel_rfl) (h.get 1 rfl) Tryd.underlying26 rfl info26)) ?_
    refine AllSure.cons (sure_call (v := .string (bytesOf r)) (by kernel_rfl) (by kernel_rfl) enter13 HA.keep #[arr r] (by kernel_rfl) (fun w' h' => Bytes_any r w')) ?_
    refine AllSure.cons (OpSure.take (v := rarr r) (by kernel_rfl) (by kernel_rfl) (fun _ h => run_load_blk (by kernel_rfl) (h.get 0 rfl) Tryd.underlying30 rfl (info_rl _))) ?_
    refine AllSure.cons (sure_call (v := .string (bytesOf r)) (by kernel_rfl) (by kernel_rfl) enter14 HA.keep #[rarr r] (by kernel_rfl) (fun w' h' => rbytes_any r w')) ?_
    refine AllSure.cons (OpSure.take (v := .bool true) (by kernel_rfl) (by kernel_rfl) (fun _ _ => (run_eqs (s := bytesOf r) (t := bytesOf r) (by kernel_rfl) (by kernel_rfl) true (decide_eq_true rfl)))) ?_
    refine AllSure.cons (OpSure.take (v := .bool true) (by kernel_rfl) (by kernel_rfl) (fun _ _ => (by kernel_rfl))) ?_
    refine AllSure.cons (OpSure.take (v := .bool true) (by kernel_rfl) (by kernel_rfl) (fun _ _ => (by kernel_rfl))) ?_
    refine AllSure.cons (sure_call (v := .bool true) (by kernel_rfl) (by kernel_rfl) enter19 HA.keep #[] (by kernel_rfl) (fun w' h' => works_any w' (VV.out.below h'.old VV.out.big))) ?_
    refine AllSure.cons (OpSure.take (v := .bool true) (by kernel_rfl) (by kernel_rfl) (fun _ _ => (by kernel_rfl))) ?_
    refine AllSure.cons (OpSure.take (v := .bool true) (by kernel_rfl) (by kernel_rfl) (fun _ _ => (by kernel_rfl))) ?_
    exact AllSure.nil
  intro w24 h25
  refine then_at (F := ⟨(.agg c0 :: pt q1 :: .bool true :: pt q8 :: pt q9 :: pt q12 :: .bool true :: pt q19 :: .bool true :: .agg c0 :: arr a :: .agg c0 :: rarr a :: .tuple #[arr r, .bool true] :: arr a :: .tuple #[arr r, .bool true] :: arr r :: .bool true :: .tuple #[rarr r, .bool true] :: rarr a :: .tuple #[rarr r, .bool true] :: rarr r :: .bool true :: arr a :: arr (invE a) :: .string (bytesOf (invE a)) :: rarr a :: rarr (invE a) :: .string (bytesOf (invE a)) :: .bool true :: .bool true :: .bool true :: .bool true :: .bool true :: .bool true :: .bool true :: arr r :: .string (bytesOf r) :: rarr r :: .string (bytesOf r) :: .bool true :: .bool true :: .bool true :: .bool true :: .bool true :: List.replicate 0 un).toArray, []⟩) (by kernel_rfl) ?_
  refine wp_ret ?_
  repeat first | refine then_ret ?_ | refine block_ret ?_
  exact bodyPost_ret (v := .bool true) (by kernel_rfl) rfl ⟨rfl, h25.old⟩
set_option linter.unusedVariables false in
set_option maxRecDepth 100000 in
set_option maxHeartbeats 4000000 in
theorem roots_no (c0 : Array Value) (a : Nat) (hz0 : c0.size = 32) (ha : a < P) (hr : rootP a = none)
    (KA : ∀ w, Vars w → Calls Tryd.prog 20 #[.agg c0] w fun e w' => e = .returned (arr a) ∧ Below w.heap.size w w')
    (RA : ∀ w, Calls Tryd.prog 21 #[.agg c0] w fun e w' => e = .returned (rarr a) ∧ Below w.heap.size w w') (w : World) (V : Vars w) :
    Calls Tryd.prog 5 #[.agg c0] w fun e w' => e = .returned (.bool true) ∧ Below w.heap.size w w' := by
  have VV := hide V
  have H0 := HA.start w
  clear V
  go_enter Tryd.func5, Tryd.ntmps5
  refine wp_seq ?_
  -- region 0
  refine wl_region ?_
  refine wl_make H0 40 (by kernel_rfl) (run_box40 (c := c0) (by kernel_rfl)) ?_
  intro q1 w2 h3
  refine wl_val (.bool false) (by kernel_rfl) (by kernel_rfl) ?_
  refine wl_nil ?_
  refine then_at (F := ⟨(.agg c0 :: pt q1 :: .bool false :: List.replicate 42 un).toArray, []⟩) (by kernel_rfl) ?_
  refine wp_seq ?_
  -- region 1
  obtain ⟨B4, eB4⟩ : ∃ B, B = w2.heap.size := ⟨_, rfl⟩
  refine wp_region_ghost (fun g : Nat → Nat => (⟨(.agg c0 :: pt q1 :: .bool false :: pt (g 4) :: pt (g 5) :: un :: un :: un :: un :: .agg c0 :: arr a :: .agg c0 :: rarr a :: List.replicate 32 un).toArray, []⟩ : Act)) (GT w [(q1, 40, c0)] B4 2 4 6 twoT (twoC (el 0) (rl 0)) (twoC (el a) (rl a))) [.agg c0, arr a, .agg c0, rarr a, .pointer (some ⟨0, 0, none⟩), .pointer (some ⟨0, 0, none⟩), undef, undef] (by kernel_rfl) (by kernel_rfl) (by kernel_rfl) (by kernel_rfl) (fun _ _ _ _ h => h) (fun d hd => GT.start h3.drew eB4 (by decide) (twoC_size a) (fun j hj => hd j (Nat.lt_of_lt_of_le hj (by decide)))) ?_ ?_
  · refine AllGhost.cons (gt_load 0 rfl (by decide) (fun _ => by kernel_rfl) (fun _ => by kernel_rfl) (fun _ => by kernel_rfl) Tryd.underlying40 rfl (by show _ = some c0.size; rw [hz0]; exact info40)) ?_
    refine AllGhost.cons (gt_call (v := arr a) (by decide) (fun _ => by kernel_rfl) (fun _ => by kernel_rfl) enter20 #[.agg c0] (fun _ => by kernel_rfl) (fun w' h' => KA w' (VV.out.below h'.old VV.out.big))) ?_
    refine AllGhost.cons (gt_load 0 rfl (by decide) (fun _ => by kernel_rfl) (fun _ => by kernel_rfl) (fun _ => by kernel_rfl) Tryd.underlying40 rfl (by show _ = some c0.size; rw [hz0]; exact info40)) ?_
    refine AllGhost.cons (gt_call (v := rarr a) (by decide) (fun _ => by kernel_rfl) (fun _ => by kernel_rfl) enter21 #[.agg c0] (fun _ => by kernel_rfl) (fun w' h' => RA w')) ?_
    refine AllGhost.cons (gt_make 0 rfl (by decide) rfl (fun _ => by kernel_rfl) (fun _ _ => by kernel_rfl) (fun _ _ => run_alloc26)) ?_
    refine AllGhost.cons (gt_make 1 rfl (by decide) rfl (fun _ => by kernel_rfl) (fun _ _ => by kernel_rfl) (fun _ _ => run_alloc30)) ?_
    refine AllGhost.cons (gt_fill 0 (by decide) rfl (fun _ => by kernel_rfl) (fun _ => by kernel_rfl) (fun _ => by kernel_rfl) (fun _ => by kernel_rfl) info26 (one_el _) (by kernel_rfl)) ?_
    refine AllGhost.cons (gt_fill 1 (by decide) rfl (fun _ => by kernel_rfl) (fun _ => by kernel_rfl) (fun _ => by kernel_rfl) (fun _ => by kernel_rfl) (info_rl _) (one_rl _) (by kernel_rfl)) ?_
    exact AllGhost.nil
  intro g w5 g6
  have h7 : HA w [(g 5, 30, rl a), (g 4, 26, el a), (q1, 40, c0)] w5 := g6.two
  clear g6 eB4
  generalize g 4 = q8 at h7 ⊢
  generalize g 5 = q9 at h7 ⊢
  clear g
  refine then_at (F := ⟨(.agg c0 :: pt q1 :: .bool false :: pt q8 :: pt q9 :: un :: un :: un :: un :: .agg c0 :: arr a :: .agg c0 :: rarr a :: List.replicate 32 un).toArray, []⟩) (by kernel_rfl) ?_
  refine wp_seq ?_
  -- region 2
  refine wl_region ?_
  refine wl_load h7 1 rfl (by kernel_rfl) (by kernel_rfl) Tryd.underlying26 rfl info26 ?_
  refine wl_call (v := .tuple #[arr 0, .bool false]) h7 (by kernel_rfl) enter31 #[arr a] (by kernel_rfl) (Root_no rfl ha hr w5 (VV.out.below h7.old VV.out.big)) ?_
  intro w10 h11
  refine wl_val (.tuple #[arr 0, .bool false]) (by kernel_rfl) (by kernel_rfl) ?_
  refine wl_val (arr 0) (by kernel_rfl) (by kernel_rfl) ?_
  refine wl_val (.bool false) (by kernel_rfl) (by kernel_rfl) ?_
  refine wl_make h11 26 (by kernel_rfl) run_alloc26 ?_
  intro q12 w13 h14
  refine wl_fill (c' := el 0) h14 0 rfl (by kernel_rfl) (by kernel_rfl) (by kernel_rfl) rfl info26 (one_el _) ?_
  intro w15 (h16 : HA w [(q12, 26, el 0), (q9, 30, rl a), (q8, 26, el a), (q1, 40, c0)] w15)
  refine wl_val (.bool false) (by kernel_rfl) (by kernel_rfl) ?_
  refine wl_nil ?_
  refine then_at (F := ⟨(.agg c0 :: pt q1 :: .bool false :: pt q8 :: pt q9 :: pt q12 :: .bool false :: un :: un :: .agg c0 :: arr a :: .agg c0 :: rarr a :: .tuple #[arr 0, .bool false] :: arr a :: .tuple #[arr 0, .bool false] :: arr 0 :: .bool false :: List.replicate 27 un).toArray, []⟩) (by kernel_rfl) ?_
  refine wp_seq ?_
  -- region 3
  refine wl_region ?_
  refine wl_load h16 1 rfl (by kernel_rfl) (by kernel_rfl) Tryd.underlying30 rfl (info_rl _) ?_
  refine wl_call (v := .tuple #[rarr 0, .bool false]) h16 (by kernel_rfl) enter32 #[rarr a] (by kernel_rfl) (rroot_no a ha hr w15) ?_
  intro w17 h18
  refine wl_val (.tuple #[rarr 0, .bool false]) (by kernel_rfl) (by kernel_rfl) ?_
  refine wl_val (rarr 0) (by kernel_rfl) (by kernel_rfl) ?_
  refine wl_val (.bool false) (by kernel_rfl) (by kernel_rfl) ?_
  refine wl_make h18 30 (by kernel_rfl) run_alloc30 ?_
  intro q19 w20 h21
  refine wl_fill (c' := rl 0) h21 0 rfl (by kernel_rfl) (by kernel_rfl) (by kernel_rfl) (rl_sz _ _) (info_rl _) (one_rl _) ?_
  intro w22 (h23 : HA w [(q19, 30, rl 0), (q12, 26, el 0), (q9, 30, rl a), (q8, 26, el a), (q1, 40, c0)] w22)
  refine wl_val (.bool false) (by kernel_rfl) (by kernel_rfl) ?_
  refine wl_nil ?_
  refine then_at (F := ⟨(.agg c0 :: pt q1 :: .bool false :: pt q8 :: pt q9 :: pt q12 :: .bool false :: pt q19 :: .bool false :: .agg c0 :: arr a :: .agg c0 :: rarr a :: .tuple #[arr 0, .bool false] :: arr a :: .tuple #[arr 0, .bool false] :: arr 0 :: .bool false :: .tuple #[rarr 0, .bool false] :: rarr a :: .tuple #[rarr 0, .bool false] :: rarr 0 :: .bool false :: List.replicate 22 un).toArray, []⟩) (by kernel_rfl) ?_
  refine wp_seq ?_
  -- region 4
  refine wp_region_sure ⟨(.agg c0 :: pt q1 :: .bool true :: pt q8 :: pt q9 :: pt q12 :: .bool false :: pt q19 :: .bool false :: .agg c0 :: arr a :: .agg c0 :: rarr a :: .tuple #[arr 0, .bool false] :: arr a :: .tuple #[arr 0, .bool false] :: arr 0 :: .bool false :: .tuple #[rarr 0, .bool false] :: rarr a :: .tuple #[rarr 0, .bool false] :: rarr 0 :: .bool false :: arr a :: arr (invE a) :: .string (bytesOf (invE a)) :: rarr a :: rarr (invE a) :: .string (bytesOf (invE a)) :: .bool true :: .bool true :: .bool false :: .bool false :: .bool true :: .bool true :: .bool true :: arr 0 :: .string (bytesOf 0) :: rarr 0 :: .string (bytesOf 0) :: .bool true :: .bool true :: .bool true :: .bool true :: .bool true :: List.replicate 0 un).toArray, []⟩ (HA w [(q19, 30, rl 0), (q12, 26, el 0), (q9, 30, rl a), (q8, 26, el a), (q1, 40, c0)]) [arr a, arr (invE a), .string (bytesOf (invE a)), rarr a, rarr (invE a), .string (bytesOf (invE a)), .bool true, .bool true, .bool false, .bool false, .bool true, .bool true, .bool true, arr 0, .string (bytesOf 0), rarr 0, .string (bytesOf 0), .bool true, .bool true, .bool true, .bool true, .bool true, .bool true] (by kernel_rfl) (by kernel_rfl) (by kernel_rfl) (by kernel_rfl) (fun _ _ _ h => h) h23.drew ?_ ?_
  · refine AllSure.cons (OpSure.take (v := arr a) (by kernel_rfl) (by kernel_rfl) (fun _ h => run_load_blk (by kernel_rfl) (h.get 3 rfl) Tryd.underlying26 rfl info26)) ?_
    refine AllSure.cons (sure_call (v := arr (invE a)) (by kernel_rfl) (by kernel_rfl) enter33 HA.keep #[arr a] (by kernel_rfl) (fun w' h' => Inv_any a ha w' (VV.out.below h'.old VV.out.big))) ?_
    refine AllSure.cons (sure_call (v := .string (bytesOf (invE a))) (by kernel_rfl) (by kernel_rfl) enter13 HA.keep #[arr (invE a)] (by kernel_rfl) (fun w' h' => Bytes_any (invE a) w')) ?_
    refine AllSure.cons (OpSure.take (v := rarr a) (by kernel_rfl) (by kernel_rfl) (fun _ h => run_load_blk (by kernel_rfl) (h.get 2 rfl) Tryd.underlying30 rfl (info_rl _))) ?_
    refine AllSure.cons (sure_call (v := rarr (invE a)) (by kernel_rfl) (by kernel_rfl) enter34 HA.keep #[rarr a] (by kernel_rfl) (fun w' h' => rinv_any a ha w')) ?_
    refine AllSure.cons (sure_call (v := .string (bytesOf (invE a))) (by kernel_rfl) (by kernel_rfl) enter14 HA.keep #[rarr (invE a)] (by kernel_rfl) (fun w' h' => rbytes_any (invE a) w')) ?_
    refine AllSure.cons (OpSure.take (v := .bool true) (by kernel_rfl) (by kernel_rfl) (fun _ _ => (run_eqs (s := bytesOf (invE a)) (t := bytesOf (invE a)) (by kernel_rfl) (by kernel_rfl) true (decide_eq_true rfl)))) ?_
    refine AllSure.cons (OpSure.take (v := .bool true) (by kernel_rfl) (by kernel_rfl) (fun _ _ => (by kernel_rfl))) ?_
    refine AllSure.cons (OpSure.take (v := .bool false) (by kernel_rfl) (by kernel_rfl) (fun _ _ => (by kernel_rfl))) ?_
    refine AllSure.cons (OpSure.take (v := .bool false) (by kernel_rfl) (by kernel_rfl) (fun _ _ => (by kernel_rfl))) ?_
    refine AllSure.cons (OpSure.take (v := .bool true) (by kernel_rfl) (by kernel_rfl) (fun _ _ => (run_eqb false false (by kernel_rfl) (by kernel_rfl)))) ?_
    refine AllSure.cons (OpSure.take (v := .bool true) (by kernel_rfl) (by kernel_rfl) (fun _ _ => (by kernel_rfl))) ?_
    refine AllSure.cons (OpSure.take (v := .bool true) (by kernel_rfl) (by kernel_rfl) (fun _ _ => (by kernel_rfl))) ?_
    refine AllSure.cons (OpSure.take (v := arr 0) (by kernel_rfl) (by kernel_rfl) (fun _ h => run_load_blk (by kernel_rfl) (h.get 1 rfl) Tryd.underlying26 rfl info26)) ?_
    refine AllSure.cons (sure_call (v := .string (bytesOf 0)) (by kernel_rfl) (by kernel_rfl) enter13 HA.keep #[arr 0] (by kernel_rfl) (fun w' h' => Bytes_any 0 w')) ?_
    refine AllSure.cons (OpSure.take (v := rarr 0) (by kernel_rfl) (by kernel_rfl) (fun _ h => run_load_blk (by kernel_rfl) (h.get 0 rfl) Tryd.underlying30 rfl (info_rl _))) ?_
    refine AllSure.cons (sure_call (v := .string (bytesOf 0)) (by kernel_rfl) (by kernel_rfl) enter14 HA.keep #[rarr 0] (by kernel_rfl) (fun w' h' => rbytes_any 0 w')) ?_
    refine AllSure.cons (OpSure.take (v := .bool true) (by kernel_rfl) (by kernel_rfl) (fun _ _ => (run_eqs (s := bytesOf 0) (t := bytesOf 0) (by kernel_rfl) (by kernel_rfl) true (decide_eq_true rfl)))) ?_
    refine AllSure.cons (OpSure.take (v := .bool true) (by kernel_rfl) (by kernel_rfl) (fun _ _ => (by kernel_rfl))) ?_
    refine AllSure.cons (OpSure.take (v := .bool true) (by kernel_rfl) (by kernel_rfl) (fun _ _ => (by kernel_rfl))) ?_
    refine AllSure.cons (sure_call (v := .bool true) (by kernel_rfl) (by kernel_rfl) enter19 HA.keep #[] (by kernel_rfl) (fun w' h' => works_any w' (VV.out.below h'.old VV.out.big))) ?_
    refine AllSure.cons (OpSure.take (v := .bool true) (by kernel_rfl) (by kernel_rfl) (fun _ _ => (by kernel_rfl))) ?_
    refine AllSure.cons (OpSure.take (v := .bool true) (by kernel_rfl) (by kernel_rfl) (fun _ _ => (by kernel_rfl))) ?_
    exact AllSure.nil
  intro w24 h25
  refine then_at (F := ⟨(.agg c0 :: pt q1 :: .bool true :: pt q8 :: pt q9 :: pt q12 :: .bool false :: pt q19 :: .bool false :: .agg c0 :: arr a :: .agg c0 :: rarr a :: .tuple #[arr 0, .bool false] :: arr a :: .tuple #[arr 0, .bool false] :: arr 0 :: .bool false :: .tuple #[rarr 0, .bool false] :: rarr a :: .tuple #[rarr 0, .bool false] :: rarr 0 :: .bool false :: arr a :: arr (invE a) :: .string (bytesOf (invE a)) :: rarr a :: rarr (invE a) :: .string (bytesOf (invE a)) :: .bool true :: .bool true :: .bool false :: .bool false :: .bool true :: .bool true :: .bool true :: arr 0 :: .string (bytesOf 0) :: rarr 0 :: .string (bytesOf 0) :: .bool true :: .bool true :: .bool true :: .bool true :: .bool true :: List.replicate 0 un).toArray, []⟩) (by kernel_rfl) ?_
  refine wp_ret ?_
  repeat first | refine then_ret ?_ | refine block_ret ?_
  exact bodyPost_ret (v := .bool true) (by kernel_rfl) rfl ⟨rfl, h25.old⟩
theorem FieldRoots_any (l : List UInt8) (hl : l.length = 32) (w : World) (V : Vars w) :
    Calls Tryd.prog 5 #[.agg (cs l).toArray] w fun e w' => e = .returned (.bool true) ∧ Below w.heap.size w w' := by
  have z0 : (cs l).toArray.size = 32 := by simp [cs, hl]
  cases h : rootP (anyP l) with
  | none => exact roots_no _ _ z0 (anyP_lt l) h (any1_any l hl) (rany_any l hl) w V
  | some r => exact roots_yes _ _ z0 (anyP_lt l) r h (rootP_lt h) (any1_any l hl) (rany_any l hl) w V
end Go.Proofs.YtbmfmamhidccbaaDoor
