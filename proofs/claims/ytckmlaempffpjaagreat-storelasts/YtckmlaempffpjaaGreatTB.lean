/-
  Base: operations, bytes, appending; what is the same at every seat.
-/
import Derived.Test.YtckmlaempffpjaaGreatOps
import Derived.Lib.ConvBytes
import Derived.BigCall
import Derived.Deep.OwnRows
import Derived.Laws.AppendOwn
import Derived.Laws.IdiomCopy
import Derived.Lib.AppendStr
import Derived.Laws.MakeOwn
import Derived.Maps.AppendAt
namespace Go.Proofs.YtckmlaempffpjaaGreat
open Go.RowKit

/-! HB -/
/-- a call that keeps old memory, as a sure operation -/
theorem sure_call {ops : Array Oper} {Q : Exit → Act → World → Prop} {S : World → Prop} {F : Act} {dst : Option Tmp} {f : FuncId} {xs : Array Operand} {ats : Array TypeId} {ty : TypeId} {pos : String} {aft : Array Edge} {gd : Option (Nat × Bool)} {v : Value}
    (hw : Region.wanted ⟨dst, .call { callee := .value (.func f), args := xs, argTypes := ats }, ty, pos, aft, gd⟩ (yielded ops F.tmps) = true) (hp : F.put dst v = F)
    (hr : ∀ args w, (callFunc f args).run Tryz.prog w = .ok (.enter f args) w) (hk : ∀ w w', S w → Below w.heap.size w w' → S w') (args : Array Value) (ha : #[] ++ xs.map F.eval ++ #[] = args)
    (hc : ∀ w, S w → Calls Tryz.prog f args w fun e w' => e = .returned v ∧ Below w.heap.size w w') :
    OpSure Tryz.prog ops Q S F ⟨dst, .call { callee := .value (.func f), args := xs, argTypes := ats }, ty, pos, aft, gd⟩ := by
  subst ha
  exact OpSure.call hw hp (fun w _ => by rw [execOp_call_go]; exact hr _ w) (fun w hS => (hc w hS).mono fun e w' h => ⟨h.1, hk w w' hS h.2⟩)
theorem enter7 (args : Array Value) (w : World) : (callFunc 7 args).run Tryz.prog w = .ok (.enter 7 args) w := by go_simp
theorem enter12 (args : Array Value) (w : World) : (callFunc 12 args).run Tryz.prog w = .ok (.enter 12 args) w := by go_simp
theorem enter13 (args : Array Value) (w : World) : (callFunc 13 args).run Tryz.prog w = .ok (.enter 13 args) w := by go_simp
theorem enter14 (args : Array Value) (w : World) : (callFunc 14 args).run Tryz.prog w = .ok (.enter 14 args) w := by go_simp
theorem enter15 (args : Array Value) (w : World) : (callFunc 15 args).run Tryz.prog w = .ok (.enter 15 args) w := by go_simp
theorem enter16 (args : Array Value) (w : World) : (callFunc 16 args).run Tryz.prog w = .ok (.enter 16 args) w := by go_simp
theorem enter17 (args : Array Value) (w : World) : (callFunc 17 args).run Tryz.prog w = .ok (.enter 17 args) w := by go_simp
theorem enter18 (args : Array Value) (w : World) : (callFunc 18 args).run Tryz.prog w = .ok (.enter 18 args) w := by go_simp
theorem enter19 (args : Array Value) (w : World) : (callFunc 19 args).run Tryz.prog w = .ok (.enter 19 args) w := by go_simp
theorem enter20 (args : Array Value) (w : World) : (callFunc 20 args).run Tryz.prog w = .ok (.enter 20 args) w := by go_simp
theorem enter21 (args : Array Value) (w : World) : (callFunc 21 args).run Tryz.prog w = .ok (.enter 21 args) w := by go_simp
theorem enter22 (args : Array Value) (w : World) : (callFunc 22 args).run Tryz.prog w = .ok (.enter 22 args) w := by go_simp
theorem enter23 (args : Array Value) (w : World) : (callFunc 23 args).run Tryz.prog w = .ok (.enter 23 args) w := by go_simp
theorem enter24 (args : Array Value) (w : World) : (callFunc 24 args).run Tryz.prog w = .ok (.enter 24 args) w := by go_simp
theorem enter26 (args : Array Value) (w : World) : (callFunc 26 args).run Tryz.prog w = .ok (.enter 26 args) w := by go_simp
theorem enter27 (args : Array Value) (w : World) : (callFunc 27 args).run Tryz.prog w = .ok (.enter 27 args) w := by go_simp
theorem enter32 (args : Array Value) (w : World) : (callFunc 32 args).run Tryz.prog w = .ok (.enter 32 args) w := by go_simp
theorem enter38 (args : Array Value) (w : World) : (callFunc 38 args).run Tryz.prog w = .ok (.enter 38 args) w := by go_simp
theorem enter44 (args : Array Value) (w : World) : (callFunc 44 args).run Tryz.prog w = .ok (.enter 44 args) w := by go_simp
theorem enter45 (args : Array Value) (w : World) : (callFunc 45 args).run Tryz.prog w = .ok (.enter 45 args) w := by go_simp
theorem enter46 (args : Array Value) (w : World) : (callFunc 46 args).run Tryz.prog w = .ok (.enter 46 args) w := by go_simp
theorem enter47 (args : Array Value) (w : World) : (callFunc 47 args).run Tryz.prog w = .ok (.enter 47 args) w := by go_simp
theorem enter48 (args : Array Value) (w : World) : (callFunc 48 args).run Tryz.prog w = .ok (.enter 48 args) w := by go_simp
theorem enter49 (args : Array Value) (w : World) : (callFunc 49 args).run Tryz.prog w = .ok (.enter 49 args) w := by go_simp
theorem enter50 (args : Array Value) (w : World) : (callFunc 50 args).run Tryz.prog w = .ok (.enter 50 args) w := by go_simp
theorem enter51 (args : Array Value) (w : World) : (callFunc 51 args).run Tryz.prog w = .ok (.enter 51 args) w := by go_simp
theorem enter52 (args : Array Value) (w : World) : (callFunc 52 args).run Tryz.prog w = .ok (.enter 52 args) w := by go_simp
theorem enter53 (args : Array Value) (w : World) : (callFunc 53 args).run Tryz.prog w = .ok (.enter 53 args) w := by go_simp
theorem enter54 (args : Array Value) (w : World) : (callFunc 54 args).run Tryz.prog w = .ok (.enter 54 args) w := by go_simp
theorem enter55 (args : Array Value) (w : World) : (callFunc 55 args).run Tryz.prog w = .ok (.enter 55 args) w := by go_simp
theorem enter56 (args : Array Value) (w : World) : (callFunc 56 args).run Tryz.prog w = .ok (.enter 56 args) w := by go_simp
theorem enter57 (args : Array Value) (w : World) : (callFunc 57 args).run Tryz.prog w = .ok (.enter 57 args) w := by go_simp
theorem enter58 (args : Array Value) (w : World) : (callFunc 58 args).run Tryz.prog w = .ok (.enter 58 args) w := by go_simp
theorem enter59 (args : Array Value) (w : World) : (callFunc 59 args).run Tryz.prog w = .ok (.enter 59 args) w := by go_simp
theorem enter60 (args : Array Value) (w : World) : (callFunc 60 args).run Tryz.prog w = .ok (.enter 60 args) w := by go_simp
theorem enter61 (args : Array Value) (w : World) : (callFunc 61 args).run Tryz.prog w = .ok (.enter 61 args) w := by go_simp
theorem enter62 (args : Array Value) (w : World) : (callFunc 62 args).run Tryz.prog w = .ok (.enter 62 args) w := by go_simp
theorem enter63 (args : Array Value) (w : World) : (callFunc 63 args).run Tryz.prog w = .ok (.enter 63 args) w := by go_simp
theorem enter64 (args : Array Value) (w : World) : (callFunc 64 args).run Tryz.prog w = .ok (.enter 64 args) w := by go_simp
theorem enter65 (args : Array Value) (w : World) : (callFunc 65 args).run Tryz.prog w = .ok (.enter 65 args) w := by go_simp
theorem enter66 (args : Array Value) (w : World) : (callFunc 66 args).run Tryz.prog w = .ok (.enter 66 args) w := by go_simp
theorem enter67 (args : Array Value) (w : World) : (callFunc 67 args).run Tryz.prog w = .ok (.enter 67 args) w := by go_simp
theorem enter75 (args : Array Value) (w : World) : (callFunc 75 args).run Tryz.prog w = .ok (.enter 75 args) w := by go_simp
theorem enter76 (args : Array Value) (w : World) : (callFunc 76 args).run Tryz.prog w = .ok (.enter 76 args) w := by go_simp
theorem enter89 (args : Array Value) (w : World) : (callFunc 89 args).run Tryz.prog w = .ok (.enter 89 args) w := by go_simp
theorem enter90 (args : Array Value) (w : World) : (callFunc 90 args).run Tryz.prog w = .ok (.enter 90 args) w := by go_simp
theorem enter91 (args : Array Value) (w : World) : (callFunc 91 args).run Tryz.prog w = .ok (.enter 91 args) w := by go_simp
theorem enter92 (args : Array Value) (w : World) : (callFunc 92 args).run Tryz.prog w = .ok (.enter 92 args) w := by go_simp
theorem enter93 (args : Array Value) (w : World) : (callFunc 93 args).run Tryz.prog w = .ok (.enter 93 args) w := by go_simp
theorem enter94 (args : Array Value) (w : World) : (callFunc 94 args).run Tryz.prog w = .ok (.enter 94 args) w := by go_simp
theorem enter95 (args : Array Value) (w : World) : (callFunc 95 args).run Tryz.prog w = .ok (.enter 95 args) w := by go_simp
theorem enter96 (args : Array Value) (w : World) : (callFunc 96 args).run Tryz.prog w = .ok (.enter 96 args) w := by go_simp
theorem enter97 (args : Array Value) (w : World) : (callFunc 97 args).run Tryz.prog w = .ok (.enter 97 args) w := by go_simp
theorem enter98 (args : Array Value) (w : World) : (callFunc 98 args).run Tryz.prog w = .ok (.enter 98 args) w := by go_simp
theorem enter99 (args : Array Value) (w : World) : (callFunc 99 args).run Tryz.prog w = .ok (.enter 99 args) w := by go_simp
theorem enter100 (args : Array Value) (w : World) : (callFunc 100 args).run Tryz.prog w = .ok (.enter 100 args) w := by go_simp
theorem enter101 (args : Array Value) (w : World) : (callFunc 101 args).run Tryz.prog w = .ok (.enter 101 args) w := by go_simp
theorem enter102 (args : Array Value) (w : World) : (callFunc 102 args).run Tryz.prog w = .ok (.enter 102 args) w := by go_simp
theorem enter103 (args : Array Value) (w : World) : (callFunc 103 args).run Tryz.prog w = .ok (.enter 103 args) w := by go_simp
theorem enter104 (args : Array Value) (w : World) : (callFunc 104 args).run Tryz.prog w = .ok (.enter 104 args) w := by go_simp
theorem enter105 (args : Array Value) (w : World) : (callFunc 105 args).run Tryz.prog w = .ok (.enter 105 args) w := by go_simp
theorem enter106 (args : Array Value) (w : World) : (callFunc 106 args).run Tryz.prog w = .ok (.enter 106 args) w := by go_simp
theorem enter109 (args : Array Value) (w : World) : (callFunc 109 args).run Tryz.prog w = .ok (.enter 109 args) w := by go_simp
theorem enter110 (args : Array Value) (w : World) : (callFunc 110 args).run Tryz.prog w = .ok (.enter 110 args) w := by go_simp
theorem enter119 (args : Array Value) (w : World) : (callFunc 119 args).run Tryz.prog w = .ok (.enter 119 args) w := by go_simp
theorem enter123 (args : Array Value) (w : World) : (callFunc 123 args).run Tryz.prog w = .ok (.enter 123 args) w := by go_simp
theorem enter124 (args : Array Value) (w : World) : (callFunc 124 args).run Tryz.prog w = .ok (.enter 124 args) w := by go_simp
theorem enter125 (args : Array Value) (w : World) : (callFunc 125 args).run Tryz.prog w = .ok (.enter 125 args) w := by go_simp
theorem enter126 (args : Array Value) (w : World) : (callFunc 126 args).run Tryz.prog w = .ok (.enter 126 args) w := by go_simp
theorem enter127 (args : Array Value) (w : World) : (callFunc 127 args).run Tryz.prog w = .ok (.enter 127 args) w := by go_simp
theorem enter128 (args : Array Value) (w : World) : (callFunc 128 args).run Tryz.prog w = .ok (.enter 128 args) w := by go_simp
theorem enter129 (args : Array Value) (w : World) : (callFunc 129 args).run Tryz.prog w = .ok (.enter 129 args) w := by go_simp
theorem enter130 (args : Array Value) (w : World) : (callFunc 130 args).run Tryz.prog w = .ok (.enter 130 args) w := by go_simp
theorem enter131 (args : Array Value) (w : World) : (callFunc 131 args).run Tryz.prog w = .ok (.enter 131 args) w := by go_simp
theorem enter133 (args : Array Value) (w : World) : (callFunc 133 args).run Tryz.prog w = .ok (.enter 133 args) w := by go_simp
theorem enter146 (args : Array Value) (w : World) : (callFunc 146 args).run Tryz.prog w = .ok (.enter 146 args) w := by go_simp
theorem enter148 (args : Array Value) (w : World) : (callFunc 148 args).run Tryz.prog w = .ok (.enter 148 args) w := by go_simp
/-! whole loads, new variables and their filling, words without world, in a region that makes variables -/
/-- a loop whose measure gets less -/
theorem rounds_more {P : Program} {Q : Exit → Act → World → Prop} {c : Code} : ∀ (n : Nat) (a : Act) (w : World), Code.rounds P c Q n a w → Code.rounds P c Q (n + 1) a w
  | 0, _, _, h => h.elim
  | n + 1, a, w, h => by
    rw [rounds_succ] at h ⊢
    exact Code.wp_mono (fun e a w he => by cases e <;> first | exact rounds_more n a w he | exact he) h
theorem rounds_le {P : Program} {Q : Exit → Act → World → Prop} {c : Code} {n m : Nat} (h : n ≤ m) {a : Act} {w : World} (hr : Code.rounds P c Q n a w) : Code.rounds P c Q m a w := by
  induction h with
  | refl => exact hr
  | step _ ih => exact rounds_more _ _ _ ih
theorem wp_while {P : Program} {Q : Exit → Act → World → Prop} {c : Code} (I : Nat → Act → World → Prop) (m : Nat) {a : Act} {w : World} (h0 : I m a w)
    (round : ∀ m a w, I m a w → c.wp P (Exit.then (fun a' w' => ∃ m', m' < m ∧ I m' a' w') Q) a w) : (Code.loop c).wp P Q a w := by
  have key : ∀ m a w, I m a w → Code.rounds P c Q (m + 1) a w := by
    intro m
    induction m using Nat.strongRecOn with
    | ind m ih =>
      intro a w hI
      rw [rounds_succ]
      refine Code.wp_mono (fun e a w he => ?_) (round m a w hI)
      cases e with
      | normal =>
        obtain ⟨m', hm, h'⟩ := he
        exact rounds_le hm (ih m' hm a w h')
      | _ => exact he
  exact wp_loop_rounds (m + 1) (key m a w h0)
theorem run_callv {ρ : Operand → Value} {x : Operand} {xs : Array Operand} {ats : Array TypeId} {w : World} {dst : Option Tmp} {ty : TypeId} {pos : String} {aft : Array Edge} {gd : Option (Nat × Bool)} {f : FuncId} {cap args : Array Value}
    (hr : ∀ args w, (callFunc f args).run Tryz.prog w = .ok (.enter f args) w) (hx : ρ x = .func (.func f) #[] cap) (ha : #[] ++ xs.map ρ ++ cap = args) :
    (execOp ρ ⟨dst, .call { callee := .value x, args := xs, argTypes := ats }, ty, pos, aft, gd⟩).run Tryz.prog w = .ok (.enter f args) w := by
  subst ha
  simp only [execOp, resolve, hx, invoke, Deferred.ofValue, Sem.run_bind, Sem.run_pure, Result.andThen_ok]
  exact hr _ w

/-! HW -/
/-- the two kinds of words -/
inductive WK : IntKind → Nat → Prop
  | s : WK .u32 32
  | l : WK .u64 64
/-! HX -/
def bl (s : ByteArray) : List UInt8 := s.data.toList
theorem bl_len (s : ByteArray) : (bl s).length = s.size := by unfold bl; rw [Array.length_toList]; rfl
/-- a byte as a value -/
def by8 (u : UInt8) : Value := iN .u8 u.toNat
/-- bytes as cells -/
def bc (l : List UInt8) : Array Value := (l.map by8).toArray
theorem bc_size (l : List UInt8) : (bc l).size = l.length := by simp [bc]
theorem bc_get (l : List UInt8) (i : Nat) (h : i < l.length) : (bc l)[i]? = some (by8 (l.getD i 0)) := by
  simp [bc, List.getElem?_eq_getElem h]
section
variable {ρ : Operand → Value} {x y : Operand} {w : World} {dst : Option Tmp} {T T2 ty : TypeId} {pos : String} {aft : Array Edge} {gd : Option (Nat × Bool)} {k : IntKind} {n : Nat} {a b : BitVec n} 
theorem run_len {s : ByteArray} (hx : ρ x = .string s) : (execOp ρ ⟨dst, .call { callee := .builtin .len, args := #[x], argTypes := #[9] }, ty, pos, aft, gd⟩).run Tryz.prog w = .ok (.value (iN .i64 s.size)) w := by
  simp only [execOp, iN]
  go_simp
theorem run_min {i j : Nat} (hx : ρ x = iN .i64 i) (hy : ρ y = iN .i64 j) : (execOp ρ ⟨dst, .call { callee := .builtin .min, args := #[x, y], argTypes := #[3, 3] }, ty, pos, aft, gd⟩).run Tryz.prog w = .ok (.value (iN .i64 (min i j))) w := by
  simp only [execOp, iN] at hx hy ⊢
  go_simp
  split <;> omega
theorem run_cut_hi {s : ByteArray} {b : Nat} (hx : ρ x = .string s) (hy : ρ y = iN .i64 b) (hb : b ≤ s.size) : (execOp ρ ⟨dst, .slice 9 x none (some y) none, ty, pos, aft, gd⟩).run Tryz.prog w = .ok (.value (.string (s.extract 0 b))) w := by
  simp only [execOp, hx, Option.map, hy, iN]
  go_simp
theorem info5 : (Tryz.prog.info? 5).map (fun i => (i.zero, i.size, i.bytes)) = some (some (.int .u8 0), 1, 1) := by kernel_rfl
theorem made_bc (c : Nat) : madeCells #[.int .u8 0] c = bc (List.replicate c 0) := by
  unfold madeCells bc
  apply Array.ext
  · simp
  · intro i h1 h2
    simp [Nat.mod_one, by8, iN]
theorem run_mk {m c : Nat} (hx : ρ x = iN .i64 m) (hy : ρ y = iN k c) (hmc : m ≤ c) (hc : c ≤ 2000000) : (execOp ρ ⟨dst, .makeSlice 62 x y, ty, pos, aft, gd⟩).run Tryz.prog w = .ok (.value (.slice (some ⟨w.heap.size, 0, none⟩) m c)) (w.alloc (.cells (bc (List.replicate c 0)) 5)) := by
  obtain ⟨i, hi, h⟩ := Option.map_eq_some_iff.1 info5
  simp only [Prod.mk.injEq] at h
  have e := run_makeSlice (P := Tryz.prog) w 62 5 i (.int .u8 0) Tryz.underlying62 hi h.1 .i64 k (m : Int) (c : Int) (by omega) (by omega) (by rw [h.2.1]; omega) (by rw [h.2.2]; omega) (by omega)
  rw [h.2.1] at e
  simp only [Int.toNat_natCast, Nat.mul_one] at e
  simp only [execOp, hx, hy, iN, Sem.run_bind, e, Result.andThen_ok, Sem.run_pure]
  rw [show (Value.int IntKind.u8 0).cells = #[Value.int IntKind.u8 0] from rfl, made_bc]
end
/-! HY -/
/-- one block is turned -/
theorem HA.turn {A B : World} {w0 : Base} {L : List (Nat × TypeId × Array Value)} {q : Nat} {t : TypeId} {c c' : Array Value} (h : HA w0 L A) (i : Nat) (hi : L[i]? = some (q, t, c)) (hg : A.grownBy B (some q)) (hb : Blk B q t c') : HA w0 (L.set i (q, t, c')) B := by
  have hlt : i < L.length := (List.getElem?_eq_some_iff.1 hi).1
  have hmap : (L.set i (q, t, c')).map (·.1) = L.map (·.1) := by
    rw [List.map_set]
    refine List.ext_getElem? fun m => ?_
    by_cases hm : i = m
    · subst hm
      rw [List.getElem?_set_self (by simpa using hlt), List.getElem?_map, hi]
      rfl
    · rw [List.getElem?_set_ne hm]
  have hq := h.own _ (List.mem_of_getElem? hi)
  refine ⟨h.old.grown hq (h.get i hi) hg, fun x hx => ?_, fun x hx => ?_, by rw [hmap]; exact h.nd⟩
  · obtain ⟨m, hm⟩ := List.mem_iff_getElem?.1 hx
    by_cases him : i = m
    · subst him
      rw [List.getElem?_set_self hlt] at hm
      obtain rfl := Option.some.inj hm
      exact hb
    · rw [List.getElem?_set_ne him] at hm
      have hx1 := h.get m hm
      unfold Blk
      rw [hg.block x.1 hx1.lt (fun e => him ?_)]
      · exact hx1
      · have h1 : (L.map (·.1))[i]? = some q := by rw [List.getElem?_map, hi]; rfl
        have h2 : (L.map (·.1))[m]? = some q := by rw [List.getElem?_map, hm]; exact e
        exact (List.getElem?_inj (by simpa using hlt) h.nd).1 (h1.trans h2.symm)
  · have : x.1 ∈ L.map (·.1) := by rw [← hmap]; exact List.mem_map.2 ⟨x, hx, rfl⟩
    obtain ⟨y, hy, e⟩ := List.mem_map.1 this
    rw [← e]
    exact h.own y hy
theorem grown_sets {w : World} {q o : Nat} {vs : List Value} : w.grownBy (w.setCells q o vs) (some q) := by
  have key : ∀ (vs : List Value) (o : Nat) (w2 : World), w.grownBy w2 (some q) → w.grownBy (w2.setCells q o vs) (some q) := by
    intro vs
    induction vs with
    | nil => intro o w2 h; exact h
    | cons v r ih =>
      intro o w2 h
      refine ih (o + 1) _ ⟨h.os, h.tape, h.output, by simpa using h.size, fun k hk hne => ?_⟩
      rw [Below.heap_setCell w2 ⟨q, o, none⟩ v k (fun e => hne (by rw [e]))]
      exact h.block k hk hne
  exact key vs o w ⟨rfl, rfl, rfl, Nat.le_refl _, fun _ _ _ => rfl⟩

theorem HA.part {w : World} {w0 : Base} {L : List (Nat × TypeId × Array Value)} {q o : Nat} {t : TypeId} {c : Array Value} {vs : List Value} (h : HA w0 L w) (i : Nat) (hi : L[i]? = some (q, t, c)) (ho : o + vs.length ≤ c.size) :
    HA w0 (L.set i (q, t, (c.toList.take o ++ vs ++ c.toList.drop (o + vs.length)).toArray)) (w.setCells q o vs) := h.turn i hi grown_sets (Blk.sets vs o w c (h.get i hi) ho)
/-- m bytes stand, then come others -/
def laidOn (l : List UInt8) (m : Nat) (r : List UInt8) : List UInt8 := l.take m ++ r ++ l.drop (m + r.length)
theorem laidOn_len (l : List UInt8) (m : Nat) (r : List UInt8) (h : m + r.length ≤ l.length) : (laidOn l m r).length = l.length := by
  unfold laidOn
  rw [List.length_append, List.length_append, List.length_take, List.length_drop]
  omega
theorem laidOn_take (l : List UInt8) (m : Nat) (r : List UInt8) (h : m + r.length ≤ l.length) : (laidOn l m r).take (m + r.length) = l.take m ++ r := by
  unfold laidOn
  have e : (l.take m ++ r).length = m + r.length := by rw [List.length_append, List.length_take]; omega
  rw [← e, List.take_left]
theorem laid_bc (l : List UInt8) (m : Nat) (r : List UInt8) : ((bc l).toList.take m ++ (r.map by8) ++ (bc l).toList.drop (m + (r.map by8).length)).toArray = bc (laidOn l m r) := by
  unfold bc laidOn
  simp [List.map_take, List.map_drop]
section
variable {ρ : Operand → Value} {x y : Operand} {w : World} {dst : Option Tmp} {T T2 ty : TypeId} {pos : String} {aft : Array Edge} {gd : Option (Nat × Bool)}
theorem run_text {q m c : Nat} {l : List UInt8} (hx : ρ x = .slice (some ⟨q, 0, none⟩) m c) (h : Blk w q 5 (bc l)) (hm : m ≤ l.length) :
    (execOp ρ ⟨dst, .convert 62 9 x, ty, pos, aft, gd⟩).run Tryz.prog w = .ok (.value (.string ⟨(l.take m).toArray⟩)) w := by
  have e0 : (l.take m).length = m := by rw [List.length_take]; omega
  have e := run_convert_bytes_back (P := Tryz.prog) w 62 9 5 ⟨q, 0, none⟩ c (l.take m) Tryz.underlying62 Tryz.underlying5 Tryz.underlying9 (fun j hj => by
    have hadd : (⟨q, 0, none⟩ : Addr).add j = ⟨q, j, none⟩ := by unfold Addr.add; split <;> simp_all
    rw [e0] at hj
    rw [hadd, h.cell j, bc_get l j (by omega), List.getElem_take, List.getD_eq_getElem?_getD, List.getElem?_eq_getElem (by omega)]
    rfl)
  rw [e0] at e
  simp only [execOp, hx, Sem.run_bind, e, Result.andThen_ok, Sem.run_pure]
end
/-! HT -/
theorem HA.tl {w : World} {w0 : Base} {L : List (Nat × TypeId × Array Value)} {x : Nat × TypeId × Array Value} (h : HA w0 (x :: L) w) : HA w0 L w :=
  ⟨h.old, fun y hy => h.blk y (List.mem_cons_of_mem _ hy), fun y hy => h.own y (List.mem_cons_of_mem _ hy), by have := h.nd; rw [List.map_cons, List.nodup_cons] at this; exact this.2⟩
section
variable {ρ : Operand → Value} {x y : Operand} {w : World} {dst : Option Tmp} {T T2 ty : TypeId} {pos : String} {aft : Array Edge} {gd : Option (Nat × Bool)} {P : Program} {k : IntKind} {a b : Nat}
theorem run_leq (hx : ρ x = iN k a) (hy : ρ y = iN k b) (t : Bool) (ht : decide (a ≤ b) = t) : (execOp ρ ⟨dst, .binOp .leq T x y T2, ty, pos, aft, gd⟩).run P w = .ok (.value (.bool t)) w := by
  subst ht
  simp only [execOp, hx, hy, iN]
  simp [binOp, go_sem]
theorem run_gtr (hx : ρ x = iN k a) (hy : ρ y = iN k b) (t : Bool) (ht : decide (b < a) = t) : (execOp ρ ⟨dst, .binOp .gtr T x y T2, ty, pos, aft, gd⟩).run P w = .ok (.value (.bool t)) w := by
  subst ht
  simp only [execOp, hx, hy, iN]
  simp [binOp, go_sem]
end
section
variable {ops : Array Oper} {Q : Exit → Act → World → Prop} {a : Act} {w : World} {w0 : Base} {L : List (Nat × TypeId × Array Value)} {rest : List Oper} {dst : Option Tmp} {ty : TypeId} {pos : String} {aft : Array Edge} {gd : Option (Nat × Bool)} {x y : Operand}
theorem HA.app {q m : Nat} {l n l' : List UInt8} (H : HA w0 L w) (i : Nat) (hi : L[i]? = some (q, 5, bc l)) (hroom : m + n.length ≤ l.length) (he : laidOn l m n = l') : HA w0 (L.set i (q, 5, bc l')) (w.setCells q m (n.map by8)) := by
  have := H.part i hi (o := m) (vs := n.map by8) (by rw [List.length_map, bc_size]; exact hroom)
  rw [laid_bc, he] at this
  exact this
theorem wl_mks {o : Oper} {n m : Nat} {c : Array Value} (H : HA w0 L w) (t : TypeId) (hw : Region.wanted o (yielded ops a.tmps) = true) (hr : (execOp a.eval o).run Tryz.prog w = .ok (.value (.slice (some ⟨w.heap.size, 0, none⟩) n m)) (w.alloc (.cells c t)))
    (h : ∀ q w', HA w0 ((q, t, c) :: L) w' → WL Tryz.prog ops Q rest (a.put o.dst (.slice (some ⟨q, 0, none⟩) n m)) w') : WL Tryz.prog ops Q (o :: rest) a w := by
  refine ⟨?_⟩
  unfold wpList
  rw [if_pos hw]
  refine .inl ?_
  unfold Oper.wp
  rw [hr]
  exact (h _ _ (H.make t c)).out
end
/-! HU -/
theorem bl_extract (t : ByteArray) (a b : Nat) : bl (t.extract a b) = ((bl t).drop a).take (b - a) := by
  unfold bl
  rw [ByteArray.data_extract, Array.toList_extract, List.extract_eq_take_drop]
theorem bl_inj {s t : ByteArray} (h : bl s = bl t) : s = t := by
  cases s; cases t
  congr 1
  exact Array.toList_inj.1 h
/-! MA -/
section
variable {ρ : Operand → Value} {x y z u : Operand} {w : World} {dst : Option Tmp} {T T2 ty : TypeId} {pos : String} {aft : Array Edge} {gd : Option (Nat × Bool)} {q : Nat}
theorem run_textg {m c : Nat} {t : TypeId} {l : List UInt8} (hx : ρ x = .slice (some ⟨q, 0, none⟩) m c) (h : Blk w q t (bc l)) (hm : m ≤ l.length) :
    (execOp ρ ⟨dst, .convert 62 9 x, ty, pos, aft, gd⟩).run Tryz.prog w = .ok (.value (.string ⟨(l.take m).toArray⟩)) w := by
  have e0 : (l.take m).length = m := by rw [List.length_take]; omega
  have e := run_convert_bytes_back (P := Tryz.prog) w 62 9 5 ⟨q, 0, none⟩ c (l.take m) Tryz.underlying62 Tryz.underlying5 Tryz.underlying9 (fun j hj => by
    have hadd : (⟨q, 0, none⟩ : Addr).add j = ⟨q, j, none⟩ := by unfold Addr.add; split <;> simp_all
    rw [e0] at hj
    rw [hadd, h.cell j, bc_get l j (by omega), List.getElem_take, List.getD_eq_getElem?_getD, List.getElem?_eq_getElem (by omega)]
    rfl)
  rw [e0] at e
  simp only [execOp, hx, Sem.run_bind, e, Result.andThen_ok, Sem.run_pure]
end
/-! AO -/
section
variable {ops : Array Oper} {Q : Exit → Act → World → Prop} {a : Act} {w : World} {w0 : Base} {L : List (Nat × TypeId × Array Value)} {rest : List Oper} {dst : Option Tmp} {ty ty' : TypeId} {pos : String} {aft : Array Edge} {gd : Option (Nat × Bool)} {x y : Operand} {s : ByteArray}
/-- a text's bytes as a slice of one's own -/
theorem HA.bytes (h : HA w0 L w) (s : ByteArray) : ∃ m, HA w0 ((w.heap.size, 5, bc (bl s ++ List.replicate m 0)) :: L) (Lib.bytesWorld w 5 s) := by
  have hb : Below w.heap.size w (Lib.bytesWorld w 5 s) := ⟨rfl, rfl, rfl, by rw [Lib.bytesWorld_size]; omega, fun k hk => Lib.bytesWorld_at_old w 5 s k hk⟩
  have h1 := h.keep _ _ hb
  refine ⟨grownCap w s.size 0 5 - s.size, h1.old, fun x hx => ?_, fun x hx => ?_, ?_⟩
  · rcases List.mem_cons.1 hx with rfl | hx
    · have e : Lib.bytesCells w 5 s = bc (bl s ++ List.replicate (grownCap w s.size 0 5 - s.size) 0) := by
        unfold Lib.bytesCells bc bl by8 iN
        apply Array.toList_inj.1
        simp
      have hn := Lib.bytesWorld_at_new w 5 s
      rw [e] at hn
      exact ⟨_, hn, .inr ⟨rfl, Nat.le_refl _⟩⟩
    · exact h1.blk x hx
  · rcases List.mem_cons.1 hx with rfl | hx
    · exact h.size
    · exact h1.own x hx
  · rw [List.map_cons, List.nodup_cons]
    refine ⟨fun hm => ?_, h1.nd⟩
    obtain ⟨x, hx, e⟩ := List.mem_map.1 hm
    have := (h.blk x hx).lt
    simp at e
    omega
end
/-! changes of a whole block, or of a part of it, in a drawn region -/
/-! rows that are filled from the front -/
theorem bc_put (l : List UInt8) (i : Nat) (x : UInt8) : (bc l).setIfInBounds i (.int .u8 (x.toNat : Int)) = bc (l.set i x) := by
  unfold bc
  rw [List.setIfInBounds_toArray, List.map_set]
  rfl
/-! A9 -/
section
variable {ρ : Operand → Value} {x y : Operand} {w : World} {dst : Option Tmp} {T T2 ty : TypeId} {pos : String} {aft : Array Edge} {gd : Option (Nat × Bool)} {k : IntKind} {a b : Nat} {P : Program}
theorem run_geq (hx : ρ x = iN k a) (hy : ρ y = iN k b) (t : Bool) (ht : decide (b ≤ a) = t) : (execOp ρ ⟨dst, .binOp .geq T x y T2, ty, pos, aft, gd⟩).run P w = .ok (.value (.bool t)) w := by
  subst ht
  simp only [execOp, hx, hy, iN]
  simp [binOp, go_sem]
end
/-! Aa -/
end Go.Proofs.YtckmlaempffpjaaGreat
