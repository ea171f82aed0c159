/-
  Two arrays of numbers are one just if their lists are.
-/
import Derived.Test.YtpaendmdcdeemaaDoorMem
namespace Go.Proofs.YtpaendmdcdeemaaDoor
open Go.RowKit Num

theorem run_eq_loop {Q : Program} (w : World) (d e n : Nat) (k k' : IntKind) (l m : List Nat) (hl : l.length = n) (hm : m.length = n)
    (he : Q.underlying e = some (.int k')) (hp : ∀ (c : Array Value) (i : Nat) (v : Value) (w : World), c[i]? = some v → (part e c i).run Q w = .ok v w) :
    ∀ (c s : Nat), s + c = n → (forIn (List.range' s c) ((none, ()) : Option Bool × Unit) fun i _ => do
            let a ← part e (cl k l) i
            let b ← part e (cl k m) i
            let r ← Op.equalIn (d + 1) e a b
            if (!r) = true then pure (ForInStep.done (some false, ())) else pure (ForInStep.yield (none, ())) : Sem (Option Bool × Unit)).run Q w
      = .ok (if l.drop s = m.drop s then (none, ()) else (some false, ())) w
  | 0, s, h => by
    rw [List.drop_of_length_le (by omega), List.drop_of_length_le (by omega)]
    simp
  | c + 1, s, h => by
    have h1 : s < l.length := by omega
    have h2 : s < m.length := by omega
    rw [List.range'_succ, List.forIn_cons]
    simp only [Sem.run_bind, hp _ s _ w (cl_get k l s h1), hp _ s _ w (cl_get k m s h2), Result.andThen_ok, run_equalIn_int w d e k k' _ _ he]
    have key : (l.drop s = m.drop s) ↔ (l[s] = m[s] ∧ l.drop (s + 1) = m.drop (s + 1)) := by
      rw [List.drop_eq_getElem_cons h1, List.drop_eq_getElem_cons h2, List.cons.injEq]
    by_cases hx : l[s] = m[s]
    · have e1 : (((l[s] : Nat) : Int) == ((m[s] : Nat) : Int)) = true := by rw [hx]; simp
      simp only [e1, Bool.not_true, Bool.false_eq_true, if_false, Sem.run_pure, Result.andThen_ok]
      rw [run_eq_loop w d e n k k' l m hl hm he hp c (s + 1) (by omega)]
      by_cases hd : l.drop (s + 1) = m.drop (s + 1)
      · rw [if_pos hd, if_pos (key.2 ⟨hx, hd⟩)]
      · rw [if_neg hd, if_neg (fun h => hd (key.1 h).2)]
    · have e1 : (((l[s] : Nat) : Int) == ((m[s] : Nat) : Int)) = false := by
        simp; omega
      simp only [e1, Bool.not_false, if_true, Sem.run_pure, Result.andThen_ok]
      rw [if_neg (fun h => hx (key.1 h).1)]

theorem run_eq_array {Q : Program} (w : World) (d t e n : Nat) (k k' : IntKind) (l m : List Nat) (hl : l.length = n) (hm : m.length = n)
    (ht : Q.underlying t = some (.array n e)) (he : Q.underlying e = some (.int k')) (hs : ∀ w, (sizeOf e).run Q w = .ok 1 w) (hp : ∀ (c : Array Value) (i : Nat) (v : Value) (w : World), c[i]? = some v → (part e c i).run Q w = .ok v w) :
    (Op.equalIn (d + 2) t (.agg (cl k l)) (.agg (cl k m))).run Q w = .ok (decide (l = m)) w := by
  rw [Op.equalIn]
  simp only [Sem.run_bind, run_underlying ht, Result.andThen_ok, hs, Std.Legacy.Range.forIn_eq_forIn_range', Std.Legacy.Range.size, Nat.mul_one]
  rw [show (n - 0 + 1 - 1) / 1 = n by omega, run_eq_loop w d e n k k' l m hl hm he hp n 0 (by omega)]
  simp only [List.drop_zero, Result.andThen_ok]
  by_cases h : l = m
  · simp [h]
  · simp [h]

theorem eq23 (w : World) (l m : List Nat) (hl : l.length = 4) (hm : m.length = 4) : (Op.equalIn 10000 23 (.agg (cl .u64 l)) (.agg (cl .u64 m))).run Tryd.prog w = .ok (decide (l = m)) w :=
  run_eq_array w 9998 23 22 4 .u64 .u64 l m hl hm (by kernel_rfl) (by kernel_rfl) (fun _ => by simp [go_sem]) (fun c i v w h => by simp [go_sem, part, h])
end Go.Proofs.YtpaendmdcdeemaaDoor
