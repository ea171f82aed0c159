/-
 The web of rules: the model, and how it lies in memory.
-/
import Derived.Test.YtihfeoanognonaaGreatG6
namespace Go.Proofs.YtihfeoanognonaaGreat
open Go.RowKit
structure St where
 rules : List (Int × Nat)
 asked : List (List Nat)
 known : List Bool
 next : List Nat
def rcl (l : List (Int × Nat)) : List Value := l.flatMap fun r => [.int .i64 r.1, iN .i64 r.2]
theorem rcl_len : ∀ l : List (Int × Nat), (rcl l).length = l.length * 2
 | [] => rfl
 | _ :: l => by
  have := rcl_len l
  simp only [rcl, List.flatMap_cons, List.length_append, List.length_cons, List.length_nil] at this ⊢
  omega
theorem rcl_get : ∀ (l : List (Int × Nat)) (i : Nat) (r : Int × Nat), l[i]? = some r → (rcl l)[2 * i]? = some (.int .i64 r.1) ∧ (rcl l)[2 * i + 1]? = some (iN .i64 r.2)
 | [], i, r, h => by simp at h
 | a :: l, 0, r, h => by
  obtain rfl : a = r := by simpa using h
  exact ⟨rfl, rfl⟩
 | a :: l, i + 1, r, h => rcl_get l i r (by simpa using h)
theorem rcl_set : ∀ (l : List (Int × Nat)) (i : Nat) (z : Int) (x : Nat), l[i]? = some (z, x) → ∀ z', (rcl l).set (2 * i) (.int .i64 z') = rcl (l.set i (z', x))
 | [], i, z, x, h, z' => by simp at h
 | a :: l, 0, z, x, h, z' => by
  obtain rfl : a = (z, x) := by simpa using h
  rfl
 | a :: l, i + 1, z, x, h, z' => by
  have := rcl_set l i z x (by simpa using h) z'
  simp only [rcl, List.flatMap_cons] at this ⊢
  rw [show 2 * (i + 1) = (2 * i) + 1 + 1 by omega]
  simp only [List.cons_append, List.nil_append, List.set_cons_succ, List.flatMap_cons]
  rw [this]
def boc (l : List Bool) : Array Value := (l.map Value.bool).toArray
theorem boc_get (l : List Bool) (i : Nat) (h : i < l.length) : (boc l)[i]? = some (.bool (l.getD i false)) := by simp [boc, h]
theorem boc_put (l : List Bool) (i : Nat) (b : Bool) : (boc l).setIfInBounds i (.bool b) = boc (l.set i b) := by simp [boc]
theorem boc_size (l : List Bool) : (boc l).size = l.length := by simp [boc]
def inl (l : List Nat) : List Value := l.map (iN .i64 ·)
inductive NRows : List Value → List (List Nat) → BL → Prop
 | nil : NRows [] [] []
 | cons {v : Value} {vs : List Value} {l : List Nat} {ls : List (List Nat)} {A B : BL} (h : Row 3 1 v l.length (inl l) A) (hs : NRows vs ls B) : NRows (v :: vs) (l :: ls) (A ++ B)
theorem NRows.len {vs : List Value} {ls : List (List Nat)} {A : BL} (h : NRows vs ls A) : vs.length = ls.length := by
 induction h with
 | nil => rfl
 | cons _ _ ih => simp [ih]
theorem NRows.at {vs : List Value} {ls : List (List Nat)} {A : BL} (h : NRows vs ls A) : ∀ (i : Nat), i < ls.length → ∃ v B C D, vs[i]? = some v ∧ A = B ++ (C ++ D) ∧ Row 3 1 v (ls.getD i []).length (inl (ls.getD i [])) C ∧
  ∀ v' l' C', Row 3 1 v' l'.length (inl l') C' → NRows (vs.set i v') (ls.set i l') (B ++ (C' ++ D)) := by
 induction h with
 | nil => intro i hi; simp at hi
 | @cons v vs l ls A B hr hs ih =>
  intro i hi
  cases i with
  | zero => exact ⟨v, [], A, B, rfl, rfl, by simpa using hr, fun v' l' C' h' => NRows.cons (A := C') h' hs⟩
  | succ i =>
   obtain ⟨u, B', C, D, h1, h2, h3, h4⟩ := ih i (by simpa using hi)
   refine ⟨u, A ++ B', C, D, by simpa using h1, by rw [h2, List.append_assoc], by simpa using h3, fun v' l' C' h' => ?_⟩
   rw [List.append_assoc]
   exact NRows.cons hr (h4 v' l' C' h')
theorem NRows.nils : ∀ n, NRows (List.replicate n (.slice none 0 0)) (List.replicate n []) []
 | 0 => NRows.nil
 | n + 1 => NRows.cons (A := []) (by exact Row.nil 3 1) (NRows.nils n)
def lef : List Bool → Nat
 | [] => 0
 | true :: l => lef l
 | false :: l => lef l + 1
theorem lef_set : ∀ (l : List Bool) (i : Nat), i < l.length → l.getD i false = false → lef (l.set i true) + 1 = lef l
 | [], i, h, _ => by simp at h
 | a :: l, 0, _, h => by
  obtain rfl : a = false := by simpa using h
  simp [lef]
 | a :: l, i + 1, h, h2 => by
  have := lef_set l i (by simpa using h) (by simpa using h2)
  cases a <;> simp only [List.set_cons_succ, lef] <;> omega
structure Wb where
 p : Nat
 ab : Nat
 kb : Nat
def wcell (b : Wb) (m : Nat) (rv nv : Value) : Array Value := #[rv, .slice (some ⟨b.ab, 0, none⟩) m m, .slice (some ⟨b.kb, 0, none⟩) m m, nv]
structure Wok (m : Nat) (st : St) : Prop where
 al : st.asked.length = m
 kl : st.known.length = m
 th : ∀ r ∈ st.rules, r.2 < m
 rl : ∀ l ∈ st.asked, ∀ r ∈ l, r < st.rules.length
 nx : ∀ x ∈ st.next, x < m
 nl : st.next.length + lef st.known ≤ m
def WH (z : Base) (b : Wb) (m : Nat) (st : St) (L : BL) (w : World) : Prop :=
 ∃ rv nv avs Lr Ln La, Row 100 2 rv st.rules.length (rcl st.rules) Lr ∧ Row 3 1 nv st.next.length (inl st.next) Ln ∧ NRows avs st.asked La ∧
  HA z ((b.p, 65, wcell b m rv nv) :: (b.ab, 63, avs.toArray) :: (b.kb, 4, boc st.known) :: (Lr ++ (Ln ++ (La ++ L)))) w
def WX (z : Base) (b : Wb) (m : Nat) (st : St) (avs : List Value) (La L : BL) (w : World) : Prop :=
 ∃ rv nv Lr Ln, Row 100 2 rv st.rules.length (rcl st.rules) Lr ∧ Row 3 1 nv st.next.length (inl st.next) Ln ∧
  HA z ((b.p, 65, wcell b m rv nv) :: (b.ab, 63, avs.toArray) :: (b.kb, 4, boc st.known) :: (Lr ++ (Ln ++ (La ++ L)))) w
theorem WH.open {z : Base} {b : Wb} {m : Nat} {st : St} {L : BL} {w : World} (h : WH z b m st L w) : ∃ avs La, NRows avs st.asked La ∧ WX z b m st avs La L w := by
 obtain ⟨rv, nv, avs, Lr, Ln, La, h1, h2, h3, H⟩ := h
 exact ⟨avs, La, h3, rv, nv, Lr, Ln, h1, h2, H⟩
theorem WX.close {z : Base} {b : Wb} {m : Nat} {st : St} {avs : List Value} {La L : BL} {w : World} (h : WX z b m st avs La L w) (hA : NRows avs st.asked La) : WH z b m st L w := by
 obtain ⟨rv, nv, Lr, Ln, h1, h2, H⟩ := h
 exact ⟨rv, nv, avs, Lr, Ln, La, h1, h2, hA, H⟩
theorem WH.keep {z : Base} {b : Wb} {m : Nat} {st : St} {L : BL} {w w' : World} (h : WH z b m st L w) (hb : Below w.heap.size w w') : WH z b m st L w' := by
 obtain ⟨rv, nv, avs, Lr, Ln, La, h1, h2, h3, H⟩ := h
 exact ⟨rv, nv, avs, Lr, Ln, La, h1, h2, h3, H.keep _ _ hb⟩
/-! what the program does -/
def learnS (st : St) (x : Nat) : St := if st.known.getD x false = true then st else { st with known := st.known.set x true, next := st.next ++ [x] }
def askS (st : St) (k : Nat) (l : List Nat) : List (List Nat) := l.foldl (fun a x => a.set x (a.getD x [] ++ [k])) st.asked
def ruleS (st : St) (x : Nat) (l : List Nat) : St :=
 let s1 : St := { st with asked := askS st st.rules.length l, rules := st.rules ++ [((l.length : Int), x)] }
 if l.length = 0 then learnS s1 x else s1
def decS (st : St) (r : Nat) : St :=
 match st.rules[r]? with
 | some (z, x) => let s1 : St := { st with rules := st.rules.set r (IntKind.i64.wrap (z - 1), x) }
  if IntKind.i64.wrap (z - 1) = 0 then learnS s1 x else s1
 | none => st
def stepS (st : St) : St := ((st.asked.getD (st.next.getD (st.next.length - 1) 0) []).foldl decS { st with next := st.next.take (st.next.length - 1) })
def runS : Nat → St → St
 | 0, st => st
 | n + 1, st => if st.next = [] then st else runS n (stepS st)
def mu (st : St) : Nat := 2 * lef st.known + st.next.length
theorem learnS_mu (st : St) (x : Nat) (h : x < st.known.length) : mu (learnS st x) ≤ mu st := by
 unfold learnS
 split
 ·exact Nat.le_refl _
 ·rename_i hk
  have := lef_set st.known x h (by simpa using hk)
  simp only [mu, List.length_append, List.length_singleton]
  omega
theorem learnS_ok {m : Nat} {st : St} (h : Wok m st) {x : Nat} (hx : x < m) : Wok m (learnS st x) := by
 unfold learnS
 split
 ·exact h
 ·rename_i hk
  exact ⟨h.al, by simpa using h.kl, h.th, h.rl, fun y hy => by
   rcases List.mem_append.1 hy with hy | hy
   ·exact h.nx y hy
   ·rw [List.mem_singleton] at hy; rw [hy]; exact hx, by
   have h1 := lef_set st.known x (by rw [h.kl]; exact hx) (by simpa using hk)
   have h2 := h.nl
   simp only [List.length_append, List.length_singleton]
   omega⟩
theorem learnS_rules (st : St) (x : Nat) : (learnS st x).rules = st.rules ∧ (learnS st x).asked = st.asked := by
 unfold learnS
 split <;> exact ⟨rfl, rfl⟩
theorem decS_ok {m : Nat} {st : St} (h : Wok m st) (r : Nat) : Wok m (decS st r) := by
 unfold decS
 split
 ·rename_i z x hr
  have hx : x < m := h.th _ (List.mem_of_getElem? hr)
  have h1 : Wok m { st with rules := st.rules.set r (IntKind.i64.wrap (z - 1), x) } := ⟨h.al, h.kl, fun y hy => by
   rcases List.mem_or_eq_of_mem_set hy with hy | rfl
   ·exact h.th y hy
   ·exact hx, fun l hl y hy => by simpa using h.rl l hl y hy, h.nx, h.nl⟩
  simp only
  split
  ·exact learnS_ok h1 hx
  ·exact h1
 ·exact h
theorem decS_same (st : St) (r : Nat) : (decS st r).rules.length = st.rules.length ∧ (decS st r).asked = st.asked := by
 unfold decS
 split
 ·rename_i z x hr
  simp only
  split
  ·have := learnS_rules { st with rules := st.rules.set r (IntKind.i64.wrap (z - 1), x) } x
   rw [this.1, this.2]
   simp
  ·simp
 ·exact ⟨rfl, rfl⟩
theorem decS_mu {m : Nat} {st : St} (h : Wok m st) (r : Nat) : mu (decS st r) ≤ mu st := by
 unfold decS
 split
 ·rename_i z x hr
  have hx : x < m := h.th _ (List.mem_of_getElem? hr)
  simp only
  split
  ·exact Nat.le_trans (learnS_mu _ x (by simpa [h.kl] using hx)) (Nat.le_refl _)
  ·exact Nat.le_refl _
 ·exact Nat.le_refl _
theorem decs_ok {m : Nat} (l : List Nat) : ∀ (st : St), Wok m st → Wok m (l.foldl decS st) ∧ (l.foldl decS st).asked = st.asked ∧ (l.foldl decS st).rules.length = st.rules.length ∧ mu (l.foldl decS st) ≤ mu st := by
 induction l with
 | nil => exact fun st h => ⟨h, rfl, rfl, Nat.le_refl _⟩
 | cons r l ih =>
  intro st h
  obtain ⟨h1, h2, h3, h4⟩ := ih (decS st r) (decS_ok h r)
  have h5 := decS_same st r
  exact ⟨h1, h2.trans h5.2, h3.trans h5.1, Nat.le_trans h4 (decS_mu h r)⟩
theorem pop_ok {m : Nat} {st : St} (h : Wok m st) : Wok m { st with next := st.next.take (st.next.length - 1) } := ⟨h.al, h.kl, h.th, h.rl, fun x hx => h.nx x (List.mem_of_mem_take hx), by have := h.nl; simp only [List.length_take]; omega⟩
theorem stepS_ok {m : Nat} {st : St} (h : Wok m st) (hn : st.next ≠ []) : Wok m (stepS st) ∧ mu (stepS st) < mu st := by
 obtain ⟨h1, _, _, h4⟩ := decs_ok (st.asked.getD (st.next.getD (st.next.length - 1) 0) []) _ (pop_ok h)
 refine ⟨h1, Nat.lt_of_le_of_lt h4 ?_⟩
 have : st.next.length ≠ 0 := fun e => hn (List.length_eq_zero_iff.1 e)
 simp only [mu, List.length_take]
 omega
theorem runS_next {m : Nat} : ∀ (n : Nat) (st : St), Wok m st → mu st ≤ n → (runS n st).next = []
 | 0, st, _, h => by
  show st.next = []
  exact List.length_eq_zero_iff.1 (by simp only [mu] at h; omega)
 | n + 1, st, hw, h => by
  unfold runS
  split
  ·assumption
  ·rename_i hn
   obtain ⟨h1, h2⟩ := stepS_ok hw hn
   exact runS_next n _ h1 (by omega)
theorem runS_more {m : Nat} : ∀ (n k : Nat) (st : St), Wok m st → mu st ≤ n → runS (n + k) st = runS n st
 | 0, k, st, _, h => by
  have : st.next = [] := List.length_eq_zero_iff.1 (by simp only [mu] at h; omega)
  cases k with
  | zero => rfl
  | succ k => rw [Nat.zero_add]; show (if st.next = [] then st else runS k (stepS st)) = st; rw [if_pos this]
 | n + 1, k, st, hw, h => by
  rw [show n + 1 + k = (n + k) + 1 by omega, runS, runS]
  split
  ·rfl
  ·rename_i hn
   obtain ⟨h1, h2⟩ := stepS_ok hw hn
   exact runS_more n k _ h1 (by omega)
def spreadS (st : St) : St := runS (mu st) st
theorem spreadS_step {m : Nat} {st : St} (h : Wok m st) (hn : st.next ≠ []) : spreadS (stepS st) = spreadS st := by
 obtain ⟨h1, h2⟩ := stepS_ok h hn
 unfold spreadS
 obtain ⟨k, hk⟩ : ∃ k, mu st = mu (stepS st) + k + 1 := ⟨mu st - mu (stepS st) - 1, by omega⟩
 rw [hk, runS, if_neg hn, runS_more _ k _ h1 (Nat.le_refl _)]
theorem spreadS_end {st : St} (hn : st.next = []) : spreadS st = st := by
 unfold spreadS
 cases mu st with
 | zero => rfl
 | succ n => rw [runS, if_pos hn]
end Go.Proofs.YtihfeoanognonaaGreat
