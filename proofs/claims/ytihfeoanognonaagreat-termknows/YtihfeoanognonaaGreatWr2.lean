/-
 The steps of a region whose order is drawn.
-/
import Derived.Test.YtihfeoanognonaaGreatWr
import Derived.Test.YtihfeoanognonaaGreatTA
namespace Go.Proofs.YtihfeoanognonaaGreat
open Go Go.RowKit
section
variable {P : Program} {ops : Array Oper} {Q : Exit → Act → World → Prop} {S : World → Prop} {J : Act → World → Prop} {n : Nat} {l : List Nat} {a : Act} {w : World}
structure WKS (P : Program) (ops : Array Oper) (S : World → Prop) (J : Act → World → Prop) (n : Nat) (l : List Nat) (a : Act) (w : World) : Prop where
 go : WR P ops S J n l a w
theorem wp_region_wk {id : Nat} (S : World → Prop) (J : Act → World → Prop) (n : Nat) (hm : P.follows .mixedOrders = true) (hc : sureB .any ops = true) (hd : distB ops = true) (hsel : Region.noSelect ops = true) (hn : ops.size = n) (hS : S w.drew)
  (h : WKS P ops S J n [] a w.drew) (hk : ∀ a w, J a w → Q .normal a w) : (Code.region id ops true).wp P Q a w := by
 refine wp_region_any hm (wr_sim hc hd hsel hk n [] a w.drew h.go ?_ (fun j o _ h => by simp at h) _ _ a w.drew (Nat.le_trans (List.countP_le_length) (by simp)) (by simp) (fun j hj h => ?_) ⟨rfl, rfl, fun _ _ => rfl⟩ hS (Below.refl _ _) (fun j o _ h => by simp at h))
 ·subst hn
  unfold cntL
  rw [List.countP_eq_length.2 (by simp)]
  simp
 ·simp [hj] at h
theorem wk_end (h : ∀ w1, Below w.heap.size w w1 → S w1 → J a w1) : WKS P ops S J 0 l a w := ⟨h⟩
theorem lget {i : Nat} {o : Oper} (h : ops.toList[i]? = some o) : ops[i]? = some o := by rw [← Array.getElem?_toList]; exact h
theorem wk_val {i : Nat} {o : Oper} (v : Value) (ho' : ops.toList[i]? = some o) (hl : l.contains i = false) (ha : aftB o l = true) (hw : Region.wanted o (yielded ops a.tmps) = true) (hr : ∀ w1, S w1 → (execOp a.eval o).run P w1 = .ok (.value v) w1)
  (h : WKS P ops S J n (i :: l) (a.put o.dst v) w) : WKS P ops S J (n + 1) l a w := ⟨.inl ⟨i, o, v, lget ho', hl, ha, by rw [if_pos hw]; exact fun w1 h1 => .inl (hr w1 h1), h.go⟩⟩
theorem wk_skip {i : Nat} {o : Oper} (ho' : ops.toList[i]? = some o) (hl : l.contains i = false) (ha : aftB o l = true) (hw : Region.wanted o (yielded ops a.tmps) = false)
  (h : WKS P ops S J n (i :: l) (a.put o.dst undef) w) : WKS P ops S J (n + 1) l a w := ⟨.inl ⟨i, o, undef, lget ho', hl, ha, by rw [hw, if_neg (by decide)], h.go⟩⟩
theorem wk_call {i : Nat} {dst : Option Tmp} {f : FuncId} {xs : Array Operand} {ats : Array TypeId} {ty : TypeId} {pos : String} {aft : Array Edge} {gd : Option (Nat × Bool)} (v : Value) (hst : ∀ w1 w', S w1 → Below w1.heap.size w1 w' → S w') (ho' : ops.toList[i]? = some ⟨dst, .call { callee := .value (.func f), args := xs, argTypes := ats }, ty, pos, aft, gd⟩) (hl : l.contains i = false) (ha : aftB ⟨dst, .call { callee := .value (.func f), args := xs, argTypes := ats }, ty, pos, aft, gd⟩ l = true)
  (hw : Region.wanted ⟨dst, .call { callee := .value (.func f), args := xs, argTypes := ats }, ty, pos, aft, gd⟩ (yielded ops a.tmps) = true) (hr : ∀ args w, (callFunc f args).run P w = .ok (.enter f args) w) (args : Array Value) (hx : #[] ++ xs.map a.eval ++ #[] = args)
  (hc : ∀ w1, S w1 → Calls P f args w1 fun e w' => e = .returned v ∧ Below w1.heap.size w1 w')
  (h : WKS P ops S J n (i :: l) (a.put dst v) w) : WKS P ops S J (n + 1) l a w := by
 subst hx
 exact ⟨.inl ⟨i, _, v, lget ho', hl, ha, by rw [if_pos hw]; exact fun w1 h1 => .inr ⟨f, _, by rw [execOp_call_go]; exact hr _ w1, (hc w1 h1).mono fun e w' h => ⟨h.1, hst w1 w' h1 h.2, h.2⟩⟩, h.go⟩⟩
def readyL (ops : Array Oper) (l : List Nat) : List Nat := (List.range ops.size).filter fun i => !l.contains i && (match ops[i]? with | some o => aftB o l | none => false)
def WO (P : Program) (S : World → Prop) (o : Oper) (a : Act) (w : World) (K : Act → World → Prop) : Prop := Oper.wp P o a w (fun a' w' => (∃ v, a' = a.put o.dst v) ∧ S w' ∧ K a' w') (fun _ _ _ => False)
theorem WO.mono {o : Oper} {K K' : Act → World → Prop} (h : WO P S o a w K) (hk : ∀ a w, K a w → K' a w) : WO P S o a w K' := by
 unfold WO Oper.wp at h ⊢
 generalize (execOp a.eval o).run P w = r at h ⊢
 cases r with
 | ok nd w' =>
  cases nd <;> simp only [Oper.upon] at h ⊢
  case value u => exact ⟨h.1, h.2.1, hk _ _ h.2.2⟩
  case skip => exact ⟨h.1, h.2.1, hk _ _ h.2.2⟩
  case defer df => exact ⟨h.1, h.2.1, hk _ _ h.2.2⟩
  case enter f args =>
   refine Calls.mono h fun e w'' he => ?_
   cases e with
   | returned u => exact ⟨he.1, he.2.1, hk _ _ he.2.2⟩
   | panicked c => exact he
   | outgrown => exact he
  case row row args => exact Rows.mono h fun u w'' he => ⟨he.1, he.2.1, hk _ _ he.2.2⟩
 | halt x w' => cases x <;> simp only [Oper.upon] at h ⊢
structure EF (P : Program) (ops : Array Oper) (S : World → Prop) (J : Act → World → Prop) (n : Nat) (l : List Nat) (i : Nat) (a : Act) (w : World) : Prop where
 go : ∀ o, ops[i]? = some o → Region.wanted o (yielded ops a.tmps) = true ∧ ∀ w1, Below w.heap.size w w1 → S w1 → WO P S o a w1 (fun a' w' => WKS P ops S J n (i :: l) a' w')
theorem wk_act (hr : ∀ i ∈ readyL ops l, EF P ops S J n l i a w) : WKS P ops S J (n + 1) l a w := by
 refine ⟨.inr fun j x hx hl ha => ?_⟩
 have hm : j ∈ readyL ops l := List.mem_filter.2 ⟨List.mem_range.2 (Array.getElem?_eq_some_iff.1 hx).1, by rw [hl, hx]; exact ha⟩
 obtain ⟨h1, h2⟩ := (hr j hm).go x hx
 exact ⟨h1, fun w1 hb hS => (h2 w1 hb hS).mono fun _ _ h => h.go⟩
theorem wk_one (i : Nat) (hr : readyL ops l = [i]) (h : EF P ops S J n l i a w) : WKS P ops S J (n + 1) l a w := wk_act fun j hj => by
 rw [hr] at hj
 obtain rfl := List.mem_singleton.1 hj
 exact h
theorem wk_two (i k : Nat) (hr : readyL ops l = [i, k]) (h : EF P ops S J n l i a w) (h2 : EF P ops S J n l k a w) : WKS P ops S J (n + 1) l a w := wk_act fun j hj => by
 rw [hr] at hj
 rcases List.mem_cons.1 hj with rfl | hj
 ·exact h
 ·obtain rfl := List.mem_singleton.1 hj
  exact h2
variable {w0 : Base} {L : List (Nat × TypeId × Array Value)} {i : Nat}
theorem ef_make {o : Oper} {c : Array Value} (ho : ops.toList[i]? = some o) (hw : Region.wanted o (yielded ops a.tmps) = true) (H : HA w0 L w) (t : TypeId) (hr : ∀ w, (execOp a.eval o).run P w = .ok (.value (.pointer (some ⟨w.heap.size, 0, none⟩))) (w.alloc (.cells c t))) (hS : ∀ q w', HA w0 ((q, t, c) :: L) w' → S w')
  (h : ∀ q w', HA w0 ((q, t, c) :: L) w' → WKS P ops S J n (i :: l) (a.put o.dst (.pointer (some ⟨q, 0, none⟩))) w') : EF P ops S J n l i a w := ⟨fun x hx => by
 rw [lget ho] at hx
 cases hx
 refine ⟨hw, fun w1 hb _ => ?_⟩
 have H1 := HA.make (HA.keep _ _ H hb) t c
 unfold WO Oper.wp
 rw [hr w1]
 exact ⟨⟨_, rfl⟩, hS _ _ H1, h _ _ H1⟩⟩
theorem ef_fill {x y : Operand} {q : Nat} {t ty ty' : TypeId} {c c' : Array Value} {dst : Option Tmp} {pos : String} {aft : Array Edge} {gd : Option (Nat × Bool)} (ho : ops.toList[i]? = some ⟨dst, .store ty x y, ty', pos, aft, gd⟩) (hw : Region.wanted ⟨dst, .store ty x y, ty', pos, aft, gd⟩ (yielded ops a.tmps) = true) (L' : List (Nat × TypeId × Array Value)) (H : HA w0 L w) (k : Nat) (hi : L[k]? = some (q, t, c)) (hL : L.set k (q, t, c') = L')
  (hx : a.eval x = .pointer (some ⟨q, 0, none⟩)) (hy : a.eval y = .agg c') (hs : c'.size = c.size) (hz : (P.info? ty).map (·.size) = some c'.size) (h1 : c'.all (·.oneCell') = true) (hS : ∀ w', HA w0 L' w' → S w')
  (h : ∀ w', HA w0 L' w' → WKS P ops S J n (i :: l) (a.put dst undef) w') : EF P ops S J n l i a w := ⟨fun x hx' => by
 rw [lget ho] at hx'
 cases hx'
 refine ⟨hw, fun w1 hb _ => ?_⟩
 subst hL
 have H0 := HA.keep _ _ H hb
 have H1 := H0.fill k hi hs
 unfold WO Oper.wp
 rw [run_store_blk (hx := hx) (hy := hy) (H0.get k hi) hs (hi := hz) (h1 := h1)]
 exact ⟨⟨_, rfl⟩, hS _ H1, h _ H1⟩⟩
theorem ef_callx {dst : Option Tmp} {f : FuncId} {xs : Array Operand} {ats : Array TypeId} {ty : TypeId} {pos : String} {aft : Array Edge} {gd : Option (Nat × Bool)} {R : World → Ending → World → Prop} (ho : ops.toList[i]? = some ⟨dst, .call { callee := .value (.func f), args := xs, argTypes := ats }, ty, pos, aft, gd⟩) (hw : Region.wanted ⟨dst, .call { callee := .value (.func f), args := xs, argTypes := ats }, ty, pos, aft, gd⟩ (yielded ops a.tmps) = true) (H : HA w0 L w)
  (hr : ∀ args w, (callFunc f args).run P w = .ok (.enter f args) w) (args : Array Value) (hx : #[] ++ xs.map a.eval ++ #[] = args) (hc : ∀ w1, HA w0 L w1 → Calls P f args w1 (R w1))
  (h : ∀ w1, HA w0 L w1 → ∀ e w', R w1 e w' → ∃ v, e = .returned v ∧ S w' ∧ WKS P ops S J n (i :: l) (a.put dst v) w') : EF P ops S J n l i a w := ⟨fun x hx' => by
 rw [lget ho] at hx'
 cases hx'
 refine ⟨hw, fun w1 hb _ => ?_⟩
 have H0 := HA.keep _ _ H hb
 subst hx
 unfold WO Oper.wp
 rw [execOp_call_go, hr]
 refine (hc w1 H0).mono ?_
 intro e w' hR
 obtain ⟨v, rfl, hS, hK⟩ := h w1 H0 e w' hR
 exact ⟨⟨v, rfl⟩, hS, hK⟩⟩
end
end Go.Proofs.YtihfeoanognonaaGreat
