/-
  Arrays compared; calls that read what a drawn region has made; bytes as slices.
-/
import Derived.Test.YtdblnbcclfenkaaDoorOfs
namespace Go.Proofs.YtdblnbcclfenkaaDoor
open Go.RowKit Num

theorem run_eq_loop {Q : Program} (w : World) (d e n : Nat) (k k' : IntKind) (l m : List Nat) (hl : l.length = n) (hm : m.length = n)
    (he : Q.underlying e = some (.int k')) (hp : ∀ (c : Array Value) (i : Nat) (v : Value) (w : World), c[i]? = some v → (part e c i).run Q w = .ok v w) :
    ∀ (c s : Nat), s + c = n → (forIn (List.range' s c) ((none, ()) : Option Bool × Unit) fun i _ => do
            let a ← part e (cl k l) i
            let b ← part e (cl k m) i
            let r ← Op.equalIn (d + 1) e a b
            if (!r) = true then pure (ForInStep.done (some false, ())) else pure (ForInStep.yield (none, ())) : Sem (Option Bool × Unit)).run Q w
      = .ok (if l.drop s = m.drop s then (none, ()) else (some false, ())) w
  | 0, s, h => by
    rw [List.drop_of_length_le (by omega), List.drop_of_length_le (by omega)]
    simp
  | c + 1, s, h => by
    have h1 : s < l.length := by omega
    have h2 : s < m.length := by omega
    rw [List.range'_succ, List.forIn_cons]
    simp only [Sem.run_bind, hp _ s _ w (cl_get k l s h1), hp _ s _ w (cl_get k m s h2), Result.andThen_ok, run_equalIn_int w d e k k' _ _ he]
    have key : (l.drop s = m.drop s) ↔ (l[s] = m[s] ∧ l.drop (s + 1) = m.drop (s + 1)) := by
      rw [List.drop_eq_getElem_cons h1, List.drop_eq_getElem_cons h2, List.cons.injEq]
    by_cases hx : l[s] = m[s]
    · have e1 : (((l[s] : Nat) : Int) == ((m[s] : Nat) : Int)) = true := by rw [hx]; simp
      simp only [e1, Bool.not_true, Bool.false_eq_true, if_false, Sem.run_pure, Result.andThen_ok]
      rw [run_eq_loop w d e n k k' l m hl hm he hp c (s + 1) (by omega)]
      by_cases hd : l.drop (s + 1) = m.drop (s + 1)
      · rw [if_pos hd, if_pos (key.2 ⟨hx, hd⟩)]
      · rw [if_neg hd, if_neg (fun h => hd (key.1 h).2)]
    · have e1 : (((l[s] : Nat) : Int) == ((m[s] : Nat) : Int)) = false := by
        simp; omega
      simp only [e1, Bool.not_false, if_true, Sem.run_pure, Result.andThen_ok]
      rw [if_neg (fun h => hx (key.1 h).1)]

theorem run_eq_array {Q : Program} (w : World) (d t e n : Nat) (k k' : IntKind) (l m : List Nat) (hl : l.length = n) (hm : m.length = n)
    (ht : Q.underlying t = some (.array n e)) (he : Q.underlying e = some (.int k')) (hs : ∀ w, (sizeOf e).run Q w = .ok 1 w) (hp : ∀ (c : Array Value) (i : Nat) (v : Value) (w : World), c[i]? = some v → (part e c i).run Q w = .ok v w) :
    (Op.equalIn (d + 2) t (.agg (cl k l)) (.agg (cl k m))).run Q w = .ok (decide (l = m)) w := by
  rw [Op.equalIn]
  simp only [Sem.run_bind, run_underlying ht, Result.andThen_ok, hs, Std.Legacy.Range.forIn_eq_forIn_range', Std.Legacy.Range.size, Nat.mul_one]
  rw [show (n - 0 + 1 - 1) / 1 = n by omega, run_eq_loop w d e n k k' l m hl hm he hp n 0 (by omega)]
  simp only [List.drop_zero, Result.andThen_ok]
  by_cases h : l = m
  · simp [h]
  · simp [h]

theorem eq34 (w : World) (l m : List Nat) (hl : l.length = 4) (hm : m.length = 4) : (Op.equalIn 10000 34 (.agg (cl .u64 l)) (.agg (cl .u64 m))).run Tryd.prog w = .ok (decide (l = m)) w :=
  run_eq_array w 9998 34 32 4 .u64 .u64 l m hl hm (by kernel_rfl) (by kernel_rfl) (fun _ => by simp [go_sem]) (fun c i v w h => by simp [go_sem, part, h])
theorem run_eqarr {ρ : Operand → Value} {x y : Operand} {a b : Nat} {w : World} {dst : Option Tmp} {ty : TypeId} {pos : String} {aft : Array Edge} {gd : Option (Nat × Bool)} (hx : ρ x = arr a) (hy : ρ y = arr b) (r : Bool) (hr : decide (a % K ^ 4 = b % K ^ 4) = r) :
    (execOp ρ ⟨dst, .binOp .eql 34 x y 34, ty, pos, aft, gd⟩).run Tryd.prog w = .ok (.value (.bool r)) w := by
  subst hr
  have e := eq34 w (digs K 4 a) (digs K 4 b) (digs_length ..) (digs_length ..)
  have h : decide (digs K 4 a = digs K 4 b) = decide (a % K ^ 4 = b % K ^ 4) := by
    refine decide_eq_decide.2 ⟨fun h => ?_, fun h => digs_mod K 4 a b (by decide) h⟩
    rw [← num_digs, ← num_digs, h]
  rw [h] at e
  simp only [execOp, hx, hy, arr]
  have hm : Op.maxDepth = 10000 := rfl
  simp [binOp, Op.equal, go_sem, hm, e]
section
variable {ops : Array Oper} {Q : Exit → Act → World → Prop} {F : (Nat → Nat) → Act} {md : Region.Mode} {i : Nat} {dst : Option Tmp} {ty ty' : TypeId} {pos : String} {aft : Array Edge} {gd : Option (Nat × Bool)}
  {w0 : World} {L M : List (Nat × TypeId × Array Value)}
theorem gm_callr {f : FuncId} {xs : Array Operand} {ats : Array TypeId} {v : Value} (j : Nat) {e : Nat × TypeId × Array Value} (hj : M[j]? = some e) (hi : M.all (fun x => x.1 != i) = true)
    (hw : ∀ g, Region.wanted ⟨dst, .call { callee := .value (.func f), args := xs, argTypes := ats }, ty, pos, aft, gd⟩ (yielded ops (F g).tmps) = true) (hp : ∀ g, (F g).put dst v = F g)
    (he : (aft.any fun x => Region.binds md x && x.on == e.1) = true)
    (hr : ∀ args w, (callFunc f args).run Tryd.prog w = .ok (.enter f args) w) (args : (Nat → Nat) → Array Value) (ha : ∀ g, #[] ++ xs.map (F g).eval ++ #[] = args g)
    (hc : ∀ g w, HA w0 L w → Blk w (g e.1) e.2.1 e.2.2 → Calls Tryd.prog f (args g) w fun e w' => e = .returned v ∧ Below w.heap.size w w') :
    OpGhost Tryd.prog md ops Q (GM w0 L M) F i ⟨dst, .call { callee := .value (.func f), args := xs, argTypes := ats }, ty, pos, aft, gd⟩ :=
  OpGhost.call (v := fun _ => v) (args := args) hw hp (fun g w => by rw [execOp_call_go, ha g]; exact hr _ w) (fun g d w hS haft => by
    obtain ⟨m, hm, h3⟩ := Array.any_eq_true.1 he
    rw [Bool.and_eq_true, beq_iff_eq] at h3
    have hd : d e.1 = true := by rw [← h3.2]; exact haft _ (Array.getElem_mem hm) h3.1
    exact (hc g w hS.held (hS.get j hj hd)).mono fun _ _ h => ⟨h.1, hS.call hi h.2⟩)
end
theorem run_byte1 {ρ : Operand → Value} {x : Operand} {n : Nat} {w : World} {dst : Option Tmp} {ty : TypeId} {pos : String} {aft : Array Edge} {gd : Option (Nat × Bool)} (hx : ρ x = iN .u8 n) :
    (execOp ρ ⟨dst, .buildSlice 31 1 #[(0, x)], ty, pos, aft, gd⟩).run Tryd.prog w = .ok (.value (.slice (some ⟨w.heap.size, 0, none⟩) 1 1)) (w.alloc (.cells #[iN .u8 n] 5)) := by
  simp only [execOp, iN] at hx ⊢
  simp only [Array.map]
  go_simp
end Go.Proofs.YtdblnbcclfenkaaDoor
