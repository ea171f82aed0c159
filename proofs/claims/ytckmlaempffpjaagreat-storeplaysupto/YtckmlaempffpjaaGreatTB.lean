/-
 Base: operations, bytes, appending; what is the same at every seat.
-/
import Derived.Test.YtckmlaempffpjaaGreatGBlk
import Derived.Lib.ConvBytes
import Derived.BigCall
import Derived.Deep.OwnRows
import Derived.Laws.AppendOwn
import Derived.Laws.IdiomCopy
import Derived.Lib.AppendStr
import Derived.Laws.MakeOwn
import Derived.Maps.AppendAt
namespace Go.Proofs.YtckmlaempffpjaaGreat
open Go.RowKit Go.Proofs.Tryz
/-! HB -/
theorem sure_call {ops : Array Oper} {Q : Exit → Act → World → Prop} {S : World → Prop} {F : Act} {dst : Option Tmp} {f : FuncId} {xs : Array Operand} {ats : Array TypeId} {ty : TypeId} {pos : String} {aft : Array Edge} {gd : Option (Nat × Bool)} {v : Value}
  (hw : Region.wanted ⟨dst, .call { callee := .value (.func f), args := xs, argTypes := ats }, ty, pos, aft, gd⟩ (yielded ops F.tmps) = true) (hp : F.put dst v = F)
  (hr : ∀ args w, (callFunc f args).run prog w = .ok (.enter f args) w) (hk : ∀ w w', S w → Below w.heap.size w w' → S w') (args : Array Value) (ha : #[] ++ xs.map F.eval ++ #[] = args)
  (hc : ∀ w, S w → Calls prog f args w fun e w' => e = .returned v ∧ Below w.heap.size w w') :
  OpSure prog ops Q S F ⟨dst, .call { callee := .value (.func f), args := xs, argTypes := ats }, ty, pos, aft, gd⟩ := by
 subst ha;exact OpSure.call hw hp (fun w _ => by rw [execOp_call_go]; exact hr _ w) (fun w hS => (hc w hS).mono fun e w' h => ⟨h.1, hk w w' hS h.2⟩)
abbrev Ent (f : FuncId) : Prop := ∀ args w, (callFunc f args).run prog w = .ok (.enter f args) w
theorem enter7 : Ent 7 := by intro _ _; go_simp
theorem enter8 : Ent 8 := by intro _ _; go_simp
theorem enter9 : Ent 9 := by intro _ _; go_simp
theorem enter10 : Ent 10 := by intro _ _; go_simp
theorem enter11 : Ent 11 := by intro _ _; go_simp
theorem enter12 : Ent 12 := by intro _ _; go_simp
theorem enter13 : Ent 13 := by intro _ _; go_simp
theorem enter14 : Ent 14 := by intro _ _; go_simp
theorem enter15 : Ent 15 := by intro _ _; go_simp
theorem enter17 : Ent 17 := by intro _ _; go_simp
theorem enter18 : Ent 18 := by intro _ _; go_simp
theorem enter20 : Ent 20 := by intro _ _; go_simp
theorem enter21 : Ent 21 := by intro _ _; go_simp
theorem enter22 : Ent 22 := by intro _ _; go_simp
theorem enter23 : Ent 23 := by intro _ _; go_simp
theorem enter24 : Ent 24 := by intro _ _; go_simp
theorem enter26 : Ent 26 := by intro _ _; go_simp
theorem enter27 : Ent 27 := by intro _ _; go_simp
theorem enter28 : Ent 28 := by intro _ _; go_simp
theorem enter29 : Ent 29 := by intro _ _; go_simp
theorem enter30 : Ent 30 := by intro _ _; go_simp
theorem enter31 : Ent 31 := by intro _ _; go_simp
theorem enter32 : Ent 32 := by intro _ _; go_simp
theorem enter33 : Ent 33 := by intro _ _; go_simp
theorem enter34 : Ent 34 := by intro _ _; go_simp
theorem enter35 : Ent 35 := by intro _ _; go_simp
theorem enter36 : Ent 36 := by intro _ _; go_simp
theorem enter37 : Ent 37 := by intro _ _; go_simp
theorem enter38 : Ent 38 := by intro _ _; go_simp
theorem enter39 : Ent 39 := by intro _ _; go_simp
theorem enter40 : Ent 40 := by intro _ _; go_simp
theorem enter41 : Ent 41 := by intro _ _; go_simp
theorem enter42 : Ent 42 := by intro _ _; go_simp
theorem enter43 : Ent 43 := by intro _ _; go_simp
theorem enter44 : Ent 44 := by intro _ _; go_simp
theorem enter45 : Ent 45 := by intro _ _; go_simp
theorem enter46 : Ent 46 := by intro _ _; go_simp
theorem enter47 : Ent 47 := by intro _ _; go_simp
theorem enter48 : Ent 48 := by intro _ _; go_simp
theorem enter49 : Ent 49 := by intro _ _; go_simp
theorem enter51 : Ent 51 := by intro _ _; go_simp
theorem enter52 : Ent 52 := by intro _ _; go_simp
theorem enter53 : Ent 53 := by intro _ _; go_simp
theorem enter54 : Ent 54 := by intro _ _; go_simp
theorem enter55 : Ent 55 := by intro _ _; go_simp
theorem enter56 : Ent 56 := by intro _ _; go_simp
theorem enter57 : Ent 57 := by intro _ _; go_simp
theorem enter58 : Ent 58 := by intro _ _; go_simp
theorem enter59 : Ent 59 := by intro _ _; go_simp
theorem enter60 : Ent 60 := by intro _ _; go_simp
theorem enter61 : Ent 61 := by intro _ _; go_simp
theorem enter62 : Ent 62 := by intro _ _; go_simp
theorem enter63 : Ent 63 := by intro _ _; go_simp
theorem enter64 : Ent 64 := by intro _ _; go_simp
theorem enter65 : Ent 65 := by intro _ _; go_simp
theorem enter66 : Ent 66 := by intro _ _; go_simp
theorem enter67 : Ent 67 := by intro _ _; go_simp
theorem enter68 : Ent 68 := by intro _ _; go_simp
theorem enter69 : Ent 69 := by intro _ _; go_simp
theorem enter70 : Ent 70 := by intro _ _; go_simp
theorem enter71 : Ent 71 := by intro _ _; go_simp
theorem enter72 : Ent 72 := by intro _ _; go_simp
theorem enter73 : Ent 73 := by intro _ _; go_simp
theorem enter74 : Ent 74 := by intro _ _; go_simp
theorem enter75 : Ent 75 := by intro _ _; go_simp
theorem enter76 : Ent 76 := by intro _ _; go_simp
theorem enter77 : Ent 77 := by intro _ _; go_simp
theorem enter78 : Ent 78 := by intro _ _; go_simp
theorem enter79 : Ent 79 := by intro _ _; go_simp
theorem enter80 : Ent 80 := by intro _ _; go_simp
theorem enter81 : Ent 81 := by intro _ _; go_simp
theorem enter82 : Ent 82 := by intro _ _; go_simp
theorem enter83 : Ent 83 := by intro _ _; go_simp
theorem enter84 : Ent 84 := by intro _ _; go_simp
theorem enter85 : Ent 85 := by intro _ _; go_simp
theorem enter86 : Ent 86 := by intro _ _; go_simp
theorem enter87 : Ent 87 := by intro _ _; go_simp
theorem enter88 : Ent 88 := by intro _ _; go_simp
theorem enter89 : Ent 89 := by intro _ _; go_simp
theorem enter90 : Ent 90 := by intro _ _; go_simp
theorem enter91 : Ent 91 := by intro _ _; go_simp
theorem enter92 : Ent 92 := by intro _ _; go_simp
theorem enter93 : Ent 93 := by intro _ _; go_simp
theorem enter94 : Ent 94 := by intro _ _; go_simp
theorem enter95 : Ent 95 := by intro _ _; go_simp
theorem enter96 : Ent 96 := by intro _ _; go_simp
theorem enter97 : Ent 97 := by intro _ _; go_simp
theorem enter98 : Ent 98 := by intro _ _; go_simp
theorem enter99 : Ent 99 := by intro _ _; go_simp
theorem enter100 : Ent 100 := by intro _ _; go_simp
theorem enter101 : Ent 101 := by intro _ _; go_simp
theorem enter102 : Ent 102 := by intro _ _; go_simp
theorem enter103 : Ent 103 := by intro _ _; go_simp
theorem enter104 : Ent 104 := by intro _ _; go_simp
theorem enter105 : Ent 105 := by intro _ _; go_simp
theorem enter106 : Ent 106 := by intro _ _; go_simp
theorem enter109 : Ent 109 := by intro _ _; go_simp
theorem enter110 : Ent 110 := by intro _ _; go_simp
theorem enter115 : Ent 115 := by intro _ _; go_simp
theorem enter116 : Ent 116 := by intro _ _; go_simp
theorem enter117 : Ent 117 := by intro _ _; go_simp
theorem enter118 : Ent 118 := by intro _ _; go_simp
theorem enter119 : Ent 119 := by intro _ _; go_simp
theorem enter120 : Ent 120 := by intro _ _; go_simp
theorem enter121 : Ent 121 := by intro _ _; go_simp
theorem enter122 : Ent 122 := by intro _ _; go_simp
theorem enter123 : Ent 123 := by intro _ _; go_simp
theorem enter124 : Ent 124 := by intro _ _; go_simp
theorem enter125 : Ent 125 := by intro _ _; go_simp
theorem enter126 : Ent 126 := by intro _ _; go_simp
theorem enter127 : Ent 127 := by intro _ _; go_simp
theorem enter128 : Ent 128 := by intro _ _; go_simp
theorem enter129 : Ent 129 := by intro _ _; go_simp
theorem enter130 : Ent 130 := by intro _ _; go_simp
theorem enter131 : Ent 131 := by intro _ _; go_simp
theorem enter133 : Ent 133 := by intro _ _; go_simp
theorem enter146 : Ent 146 := by intro _ _; go_simp
theorem enter148 : Ent 148 := by intro _ _; go_simp
/-! whole loads, new variables and their filling, words without world, in a region that makes variables -/
theorem rounds_more {P : Program} {Q : Exit → Act → World → Prop} {c : Code} : ∀ (n : Nat) (a : Act) (w : World), Code.rounds P c Q n a w → Code.rounds P c Q (n + 1) a w
 | 0, _, _, h => h.elim
 | n + 1, a, w, h => by
  rw [rounds_succ] at h ⊢;exact Code.wp_mono (fun e a w he => by cases e <;> first | exact rounds_more n a w he | exact he) h
theorem rounds_le {P : Program} {Q : Exit → Act → World → Prop} {c : Code} {n m : Nat} (h : n ≤ m) {a : Act} {w : World} (hr : Code.rounds P c Q n a w) : Code.rounds P c Q m a w := by
 induction h with
 | refl => exact hr
 | step _ ih => exact rounds_more _ _ _ ih
theorem wp_while {P : Program} {Q : Exit → Act → World → Prop} {c : Code} (I : Nat → Act → World → Prop) (m : Nat) {a : Act} {w : World} (h0 : I m a w)
  (round : ∀ m a w, I m a w → c.wp P (Exit.then (fun a' w' => ∃ m', m' < m ∧ I m' a' w') Q) a w) : (Code.loop c).wp P Q a w := by
 have key : ∀ m a w, I m a w → Code.rounds P c Q (m + 1) a w := by
  intro m
  induction m using Nat.strongRecOn with
  | ind m ih =>
   intro a w hI;rw [rounds_succ];refine Code.wp_mono (fun e a w he => ?_) (round m a w hI)
   cases e with
   | normal =>
    obtain ⟨m', hm, h'⟩ := he;exact rounds_le hm (ih m' hm a w h')
   | _ => exact he
 exact wp_loop_rounds (m + 1) (key m a w h0)
theorem run_callv {ρ : Operand → Value} {x : Operand} {xs : Array Operand} {ats : Array TypeId} {w : World} {dst : Option Tmp} {ty : TypeId} {pos : String} {aft : Array Edge} {gd : Option (Nat × Bool)} {f : FuncId} {cap args : Array Value}
  (hr : ∀ args w, (callFunc f args).run prog w = .ok (.enter f args) w) (hx : ρ x = .func (.func f) #[] cap) (ha : #[] ++ xs.map ρ ++ cap = args) :
  (execOp ρ ⟨dst, .call { callee := .value x, args := xs, argTypes := ats }, ty, pos, aft, gd⟩).run prog w = .ok (.enter f args) w := by
 subst ha
 simp only [execOp, resolve, hx, invoke, Deferred.ofValue, Sem.run_bind, Sem.run_pure, Result.andThen_ok]
 exact hr _ w
/-! HW -/
inductive WK : IntKind → Nat → Prop
 | s : WK .u32 32
 | l : WK .u64 64
/-! HX -/
def bl (s : ByteArray) : List UInt8 := s.data.toList
theorem bl_len (s : ByteArray) : (bl s).length = s.size := by unfold bl; rw [Array.length_toList]; rfl
def by8 (u : UInt8) : Value := iN .u8 u.toNat
def bc (l : List UInt8) : Array Value := (l.map by8).toArray
theorem bc_size (l : List UInt8) : (bc l).size = l.length := by simp [bc]
theorem bc_get (l : List UInt8) (i : Nat) (h : i < l.length) : (bc l)[i]? = some (by8 (l.getD i 0)) := by
 simp [bc, List.getElem?_eq_getElem h]
section
variable {ρ : Operand → Value} {x y : Operand} {w : World} {dst : Option Tmp} {T T2 ty : TypeId} {pos : String} {aft : Array Edge} {gd : Option (Nat × Bool)} {k : IntKind} {n : Nat} {a b : BitVec n} 
theorem run_len {s : ByteArray}  (hx : ρ x = .string s := by kernel_rfl) : (execOp ρ ⟨dst, .call { callee := .builtin .len, args := #[x], argTypes := #[9] }, ty, pos, aft, gd⟩).run prog w = .ok (.value (i6 s.size)) w := by
 simp only [execOp, iN]
 go_simp
theorem run_min {i j : Nat}   (hx : ρ x = i6 i := by kernel_rfl) (hy : ρ y = i6 j := by kernel_rfl) : (execOp ρ ⟨dst, .call { callee := .builtin .min, args := #[x, y], argTypes := #[3, 3] }, ty, pos, aft, gd⟩).run prog w = .ok (.value (i6 (min i j))) w := by
 simp only [execOp, iN] at hx hy ⊢
 go_simp
 split <;> omega
theorem run_cut_hi {s : ByteArray} {b : Nat}   (hb : b ≤ s.size) (hx : ρ x = .string s := by kernel_rfl) (hy : ρ y = i6 b := by kernel_rfl) : (execOp ρ ⟨dst, .slice 9 x none (some y) none, ty, pos, aft, gd⟩).run prog w = .ok (.value (.string (s.extract 0 b))) w := by
 simp only [execOp, hx, Option.map, hy, iN]
 go_simp
theorem run_cut_lo {z : Operand} {s : ByteArray} {a : Nat} (hx : ρ x = .string s) (hz : ρ z = i6 a) (ha : a ≤ s.size) : (execOp ρ ⟨dst, .slice 9 x (some z) none none, ty, pos, aft, gd⟩).run prog w = .ok (.value (.string (s.extract a s.size))) w := by
 simp only [execOp, hx, Option.map, hz, iN]
 go_simp
theorem info5 : (prog.info? 5).map (fun i => (i.zero, i.size, i.bytes)) = some (some (.int .u8 0), 1, 1) := by kernel_rfl
end
/-! HY -/
theorem HA.turn {A B : World} {w0 : Base} {L : List (Nat × TypeId × Array Value)} {q : Nat} {t : TypeId} {c c' : Array Value} (h : HA w0 L A) (i : Nat) (hi : L[i]? = some (q, t, c)) (hg : A.grownBy B (some q)) (hb : Blk B q t c') : HA w0 (L.set i (q, t, c')) B := by
 have hlt : i < L.length := (List.getElem?_eq_some_iff.1 hi).1;have hmap : (L.set i (q, t, c')).map (·.1) = L.map (·.1) := by
  rw [List.map_set];refine List.ext_getElem? fun m => ?_
  by_cases hm : i = m
  ·subst hm;rw [List.getElem?_set_self (by simpa using hlt), List.getElem?_map, hi]
   rfl
  ·rw [List.getElem?_set_ne hm]
 have hq := h.own _ (List.mem_of_getElem? hi);refine ⟨h.old.grown hq (h.get i hi) hg, fun x hx => ?_, fun x hx => ?_, by rw [hmap]; exact h.nd⟩
 ·obtain ⟨m, hm⟩ := List.mem_iff_getElem?.1 hx
  by_cases him : i = m
  ·subst him;rw [List.getElem?_set_self hlt] at hm;obtain rfl := Option.some.inj hm;exact hb
  ·rw [List.getElem?_set_ne him] at hm;have hx1 := h.get m hm
   unfold Blk
   rw [hg.block x.1 hx1.lt (fun e => him ?_)]
   ·exact hx1
   ·have h1 : (L.map (·.1))[i]? = some q := by rw [List.getElem?_map, hi]; rfl
    have h2 : (L.map (·.1))[m]? = some q := by rw [List.getElem?_map, hm]; exact e
    exact (List.getElem?_inj (by simpa using hlt) h.nd).1 (h1.trans h2.symm)
 ·have : x.1 ∈ L.map (·.1) := by rw [← hmap]; exact List.mem_map.2 ⟨x, hx, rfl⟩
  obtain ⟨y, hy, e⟩ := List.mem_map.1 this;rw [← e];exact h.own y hy
theorem grown_sets {w : World} {q o : Nat} {vs : List Value} : w.grownBy (w.setCells q o vs) (some q) := by
 have key : ∀ (vs : List Value) (o : Nat) (w2 : World), w.grownBy w2 (some q) → w.grownBy (w2.setCells q o vs) (some q) := by
  intro vs
  induction vs with
  | nil => intro o w2 h; exact h
  | cons v r ih =>
   intro o w2 h;refine ih (o + 1) _ ⟨h.os, h.tape, h.output, by simpa using h.size, fun k hk hne => ?_⟩;rw [Below.heap_setCell w2 ⟨q, o, none⟩ v k (fun e => hne (by rw [e]))];exact h.block k hk hne
 exact key vs o w ⟨rfl, rfl, rfl, Nat.le_refl _, fun _ _ _ => rfl⟩
theorem HA.part {w : World} {w0 : Base} {L : List (Nat × TypeId × Array Value)} {q o : Nat} {t : TypeId} {c : Array Value} {vs : List Value} (h : HA w0 L w) (i : Nat) (hi : L[i]? = some (q, t, c)) (ho : o + vs.length ≤ c.size) :
  HA w0 (L.set i (q, t, (c.toList.take o ++ vs ++ c.toList.drop (o + vs.length)).toArray)) (w.setCells q o vs) := h.turn i hi grown_sets (Blk.sets vs o w c (h.get i hi) ho)
def laidOn (l : List UInt8) (m : Nat) (r : List UInt8) : List UInt8 := l.take m ++ r ++ l.drop (m + r.length)
theorem laidOn_len (l : List UInt8) (m : Nat) (r : List UInt8) (h : m + r.length ≤ l.length) : (laidOn l m r).length = l.length := by
 unfold laidOn
 rw [List.length_append, List.length_append, List.length_take, List.length_drop]
 omega
theorem laidOn_take (l : List UInt8) (m : Nat) (r : List UInt8) (h : m + r.length ≤ l.length) : (laidOn l m r).take (m + r.length) = l.take m ++ r := by
 unfold laidOn
 have e : (l.take m ++ r).length = m + r.length := by rw [List.length_append, List.length_take]; omega
 rw [← e, List.take_left]
theorem laid_bc (l : List UInt8) (m : Nat) (r : List UInt8) : ((bc l).toList.take m ++ (r.map by8) ++ (bc l).toList.drop (m + (r.map by8).length)).toArray = bc (laidOn l m r) := by
 unfold bc laidOn
 simp [List.map_take, List.map_drop]
/-! HT -/
theorem HA.tl {w : World} {w0 : Base} {L : List (Nat × TypeId × Array Value)} {x : Nat × TypeId × Array Value} (h : HA w0 (x :: L) w) : HA w0 L w :=
 ⟨h.old, fun y hy => h.blk y (mc hy), fun y hy => h.own y (mc hy), by have := h.nd; rw [List.map_cons, List.nodup_cons] at this; exact this.2⟩
section
variable {ρ : Operand → Value} {x y : Operand} {w : World} {dst : Option Tmp} {T T2 ty : TypeId} {pos : String} {aft : Array Edge} {gd : Option (Nat × Bool)} {P : Program} {k : IntKind} {a b : Nat}
theorem run_leq (hx : ρ x = iN k a) (hy : ρ y = iN k b) (t : Bool) (ht : decide (a ≤ b) = t) : (execOp ρ ⟨dst, .binOp .leq T x y T2, ty, pos, aft, gd⟩).run P w = .ok (.value (.bool t)) w := by
 subst ht
 simp only [execOp, hx, hy, iN]
 simp [binOp, go_sem]
theorem run_gtr   (t : Bool) (ht : decide (b < a) = t) (hx : ρ x = iN k a := by kernel_rfl) (hy : ρ y = iN k b := by kernel_rfl) : (execOp ρ ⟨dst, .binOp .gtr T x y T2, ty, pos, aft, gd⟩).run P w = .ok (.value (.bool t)) w := by
 subst ht
 simp only [execOp, hx, hy, iN]
 simp [binOp, go_sem]
end
section
variable {ops : Array Oper} {Q : Exit → Act → World → Prop} {a : Act} {w : World} {w0 : Base} {L : List (Nat × TypeId × Array Value)} {rest : List Oper} {dst : Option Tmp} {ty : TypeId} {pos : String} {aft : Array Edge} {gd : Option (Nat × Bool)} {x y : Operand}
theorem HA.app {q m : Nat} {l n l' : List UInt8} (H : HA w0 L w) (i : Nat) (hi : L[i]? = some (q, 5, bc l)) (hroom : m + n.length ≤ l.length) (he : laidOn l m n = l') : HA w0 (L.set i (q, 5, bc l')) (w.setCells q m (n.map by8)) := by
 have := H.part i hi (o := m) (vs := n.map by8) (by rw [List.length_map, bc_size]; exact hroom);rw [laid_bc, he] at this;exact this
theorem wl_mks {o : Oper} {n m : Nat} {c : Array Value} (H : HA w0 L w) (t : TypeId)  
  (h : ∀ q w', HA w0 ((q, t, c) :: L) w' → WL prog ops Q rest (a.put o.dst (.slice (some ⟨q, 0, none⟩) n m)) w') (hw : Region.wanted o (yielded ops a.tmps) = true := by kernel_rfl) (hr : (execOp a.eval o).run prog w = .ok (.value (.slice (some ⟨w.heap.size, 0, none⟩) n m)) (w.alloc (.cells c t)) := by kernel_rfl) : WL prog ops Q (o :: rest) a w := by
 refine ⟨?_⟩
 unfold wpList
 rw [if_pos hw];refine .inl ?_
 unfold Oper.wp
 rw [hr];exact (h _ _ (H.make t c)).out
end
/-! HU -/
theorem bl_extract (t : ByteArray) (a b : Nat) : bl (t.extract a b) = ((bl t).drop a).take (b - a) := by
 unfold bl
 rw [ByteArray.data_extract, Array.toList_extract, List.extract_eq_take_drop]
theorem bl_inj {s t : ByteArray} (h : bl s = bl t) : s = t := by
 cases s; cases t
 congr 1
 exact Array.toList_inj.1 h
/-! MA -/
section
variable {ρ : Operand → Value} {x y z u : Operand} {w : World} {dst : Option Tmp} {T T2 ty : TypeId} {pos : String} {aft : Array Edge} {gd : Option (Nat × Bool)} {q : Nat}
theorem run_textg {m c : Nat} {t : TypeId} {l : List UInt8} (hx : ρ x = .slice (some ⟨q, 0, none⟩) m c) (h : Blk w q t (bc l)) (hm : m ≤ l.length) :
  (execOp ρ ⟨dst, .convert 62 9 x, ty, pos, aft, gd⟩).run prog w = .ok (.value (.string ⟨(l.take m).toArray⟩)) w := by
 have e0 : (l.take m).length = m := by rw [List.length_take]; omega
 have e := run_convert_bytes_back (P := prog) w 62 9 5 ⟨q, 0, none⟩ c (l.take m) underlying62 underlying5 underlying9 (fun j hj => by
  have hadd : (⟨q, 0, none⟩ : Addr).add j = ⟨q, j, none⟩ := by unfold Addr.add; split <;> simp_all
  rw [e0] at hj;rw [hadd, h.cell j, bc_get l j (by omega), List.getElem_take, List.getD_eq_getElem?_getD, List.getElem?_eq_getElem (by omega)]
  rfl)
 rw [e0] at e
 simp only [execOp, hx, Sem.run_bind, e, Result.andThen_ok, Sem.run_pure]
end
/-! AO -/
section
variable {ρ : Operand → Value} {x y z u : Operand} {w : World} {dst : Option Tmp} {T T2 ty : TypeId} {pos : String} {aft : Array Edge} {gd : Option (Nat × Bool)} {q : Nat} {k : IntKind} {c : Array Value}
theorem run_part {o : Nat} {t : TypeId} {c' : Array Value} {D : TypeDesc}  (h : Blk w q t c) (hc : ∀ j v, c'[j]? = some v → c[o + j]? = some v) (hu : prog.underlying T = some D) (hd : D.isRow = true)  (hx : ρ x = .pointer (some ⟨q, o, none⟩) := by kernel_rfl) (hi : (prog.info? T).map (·.size) = some c'.size := by kernel_rfl) :
  (execOp ρ ⟨dst, .load T x, ty, pos, aft, gd⟩).run prog w = .ok (.value (.agg c')) w := by
 have hr : w.rangeAt q o c'.toList := fun j v hv => by
  rw [h.cell (o + j)];exact hc j v (by rw [← Array.getElem?_toList]; exact hv)
 simp only [execOp, hx, Instr.loadAt, Instr.sureAddr, Sem.run_bind, Sem.run_pure, Result.andThen_ok, run_loadVar_mid w q o T c'.toList D hr hu hd (by rw [Array.length_toList]; exact hi)]
end
section
variable {ops : Array Oper} {Q : Exit → Act → World → Prop} {a : Act} {w : World} {w0 : Base} {L : List (Nat × TypeId × Array Value)} {rest : List Oper} {dst : Option Tmp} {ty ty' : TypeId} {pos : String} {aft : Array Edge} {gd : Option (Nat × Bool)} {x y : Operand} {s : ByteArray}
theorem HA.bytes (h : HA w0 L w) (s : ByteArray) : ∃ m, HA w0 ((w.heap.size, 5, bc (bl s ++ List.replicate m 0)) :: L) (Lib.bytesWorld w 5 s) := by
 have hb : Below w.heap.size w (Lib.bytesWorld w 5 s) := ⟨rfl, rfl, rfl, by rw [Lib.bytesWorld_size]; omega, fun k hk => Lib.bytesWorld_at_old w 5 s k hk⟩;have h1 := h.keep _ _ hb;refine ⟨grownCap w s.size 0 5 - s.size, h1.old, fun x hx => ?_, fun x hx => ?_, ?_⟩
 ·rcases List.mem_cons.1 hx with rfl | hx
  ·have e : Lib.bytesCells w 5 s = bc (bl s ++ List.replicate (grownCap w s.size 0 5 - s.size) 0) := by
    unfold Lib.bytesCells bc bl by8 iN
    apply Array.toList_inj.1
    simp
   have hn := Lib.bytesWorld_at_new w 5 s;rw [e] at hn;exact ⟨_, hn, .inr ⟨rfl, Nat.le_refl _⟩⟩
  ·exact h1.blk x hx
 ·rcases List.mem_cons.1 hx with rfl | hx
  ·exact h.size
  ·exact h1.own x hx
 ·rw [List.map_cons, List.nodup_cons];refine ⟨fun hm => ?_, h1.nd⟩;obtain ⟨x, hx, e⟩ := List.mem_map.1 hm;have := (h.blk x hx).lt
  simp at e
  omega
end
/-! changes of a whole block, or of a part of it, in a drawn region -/
/-! rows that are filled from the front -/
/-! A9 -/
section
variable {ρ : Operand → Value} {x y : Operand} {w : World} {dst : Option Tmp} {T T2 ty : TypeId} {pos : String} {aft : Array Edge} {gd : Option (Nat × Bool)} {k : IntKind} {a b : Nat} {P : Program}
theorem run_geq   (t : Bool) (ht : decide (b ≤ a) = t) (hx : ρ x = iN k a := by kernel_rfl) (hy : ρ y = iN k b := by kernel_rfl) : (execOp ρ ⟨dst, .binOp .geq T x y T2, ty, pos, aft, gd⟩).run P w = .ok (.value (.bool t)) w := by
 subst ht
 simp only [execOp, hx, hy, iN]
 simp [binOp, go_sem]
end
/-! Aa -/
theorem zwh {P : Program} {Q : Exit → Act → World → Prop} {c : Code} {a : Act} (I : Act → Nat → Act → World → Prop) (m : Nat) {w : World} (h0 : I a m a w) (round : ∀ m b w, I a m b w → c.wp P (Exit.then (fun a' w' => ∃ m', m' < m ∧ I a m' a' w') Q) b w) : (Code.loop c).wp P Q a w := wp_while (I a) m h0 round
theorem zsc {ops : Array Oper} {Q : Exit → Act → World → Prop} {S : World → Prop} {F : Act} {os : List Oper} {dst : Option Tmp} {f : FuncId} {xs : Array Operand} {ats : Array TypeId} {ty : TypeId} {pos : String} {aft : Array Edge} {gd : Option (Nat × Bool)} {v : Value} {args : Array Value}
  (hr : ∀ args w, (callFunc f args).run prog w = .ok (.enter f args) w) (hk : ∀ w w', S w → Below w.heap.size w w' → S w') (hc : ∀ w, S w → Calls prog f args w fun e w' => e = .returned v ∧ Below w.heap.size w w') (hs : AllSure prog ops Q S F os)
  (hw : Region.wanted ⟨dst, .call { callee := .value (.func f), args := xs, argTypes := ats }, ty, pos, aft, gd⟩ (yielded ops F.tmps) = true := by kernel_rfl) (hp : F.put dst v = F := by kernel_rfl) (ha : #[] ++ xs.map F.eval ++ #[] = args := by kernel_rfl) :
  AllSure prog ops Q S F (⟨dst, .call { callee := .value (.func f), args := xs, argTypes := ats }, ty, pos, aft, gd⟩ :: os) := .cons (sure_call hw hp hr hk args ha hc) hs
end Go.Proofs.YtckmlaempffpjaaGreat
