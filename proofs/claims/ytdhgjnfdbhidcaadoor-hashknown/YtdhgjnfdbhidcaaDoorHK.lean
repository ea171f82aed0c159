/-
  A region that draws its order, makes slices and reads them; texts of the letter a; closed digests.
-/
import Derived.Test.YtdhgjnfdbhidcaaDoorHs8
namespace Go.Proofs.YtdhgjnfdbhidcaaDoor
open Go.RowKit

structure GC (w0 : World) (L M : List (Nat × TypeId × Array Value)) (pre : Nat → List Nat) (la lb : Nat) (g : Nat → Nat) (d : Nat → Bool) (w : World) : Prop where
  gm : GM w0 L M g d w
  seen : Cl pre d
  link : d la = true → g la = g lb
section
variable {ops : Array Oper} {Q : Exit → Act → World → Prop} {F : (Nat → Nat) → Act} {i la lb : Nat} {dst : Option Tmp} {ty : TypeId} {pos : String} {aft : Array Edge} {gd : Option (Nat × Bool)}
  {w0 : World} {L M : List (Nat × TypeId × Array Value)} {pre : Nat → List Nat}
theorem GC.keep {g : Nat → Nat} {d : Nat → Bool} {w w' : World} (h : GC w0 L M pre la lb g d w) (hi : M.all (fun x => x.1 != i) = true) (hl : la ≠ i) (hm : ∀ m ∈ pre i, d m = true) (hb : Below w.heap.size w w') : GC w0 L M pre la lb g (up d i true) w' :=
  ⟨h.gm.call hi hb, h.seen.up hm, fun e => by rw [up_ne _ _ hl] at e; exact h.link e⟩
theorem gc_plain {o : Oper} {v : Value} (hi : M.all (fun x => x.1 != i) = true) (hl : la ≠ i) (he : ahead o.after (pre i) = true) (hw : ∀ g, Region.wanted o (yielded ops (F g).tmps) = true) (hp : ∀ g, (F g).put o.dst v = F g)
    (hr : ∀ g w, (execOp (F g).eval o).run Tryd.prog w = .ok (.value v) w) : OpGhost Tryd.prog .any ops Q (GC w0 L M pre la lb) F i o :=
  OpGhost.take (v := fun _ => v) hw hp (fun g _ w h ha => ⟨hr g w, h.keep hi hl (ahead_ok he ha) (Below.refl _ w)⟩)
/-- a place that hangs on another -/
theorem gc_link {o : Oper} {v : Nat → Value} (hi : M.all (fun x => x.1 != la) = true) (hab : la ≠ lb) (he : ahead o.after (pre la) = true) (hw : ∀ g, Region.wanted o (yielded ops (F g).tmps) = true) (hp : ∀ g, (F g).put o.dst (v (g lb)) = F (up g la (g lb)))
    (hr : ∀ g w, (execOp (F g).eval o).run Tryd.prog w = .ok (.value (v (g lb))) w) : OpGhost Tryd.prog .any ops Q (GC w0 L M pre la lb) F la o := fun g d w h hdi ha => by
  rw [if_pos (hw g)]
  unfold Oper.wp
  rw [hr g w]
  have hM : ∀ x ∈ M, x.1 ≠ la := fun x hx => by have := List.all_eq_true.1 hi x hx; simpa using this
  refine ⟨g lb, hp g, ⟨h.gm.held, fun x hx hd => ?_⟩, h.seen.up (ahead_ok he ha), fun _ => by rw [up_at, up_ne _ _ hab.symm]⟩
  rw [up_ne _ _ (hM x hx)] at hd
  rw [up_ne _ _ (hM x hx)]
  exact h.gm.made x hx hd
theorem gc_reads {o : Oper} {v : Value} (j : Nat) {e : Nat × TypeId × Array Value} (hj : M[j]? = some e) (hi : M.all (fun x => x.1 != i) = true) (hl : la ≠ i) (he : ahead o.after (pre i) = true) (h0 : ∀ d, Cl pre d → (∀ m ∈ pre i, d m = true) → d e.1 = true) (h1 : la ∈ pre i) (hw : ∀ g, Region.wanted o (yielded ops (F g).tmps) = true) (hp : ∀ g, (F g).put o.dst v = F g)
    (hr : ∀ g w, g la = g lb → Blk w (g e.1) e.2.1 e.2.2 → (execOp (F g).eval o).run Tryd.prog w = .ok (.value v) w) : OpGhost Tryd.prog .any ops Q (GC w0 L M pre la lb) F i o :=
  OpGhost.take (v := fun _ => v) hw hp (fun g d w h ha => ⟨hr g w (h.link (ahead_ok he ha la h1)) (h.gm.get j hj (h0 d h.seen (ahead_ok he ha))), h.keep hi hl (ahead_ok he ha) (Below.refl _ w)⟩)
theorem gc_call {f : FuncId} {xs : Array Operand} {ats : Array TypeId} {v : Value} (hi : M.all (fun x => x.1 != i) = true) (hl : la ≠ i) (he : ahead aft (pre i) = true)
    (hw : ∀ g, Region.wanted ⟨dst, .call { callee := .value (.func f), args := xs, argTypes := ats }, ty, pos, aft, gd⟩ (yielded ops (F g).tmps) = true) (hp : ∀ g, (F g).put dst v = F g)
    (hr : ∀ args w, (callFunc f args).run Tryd.prog w = .ok (.enter f args) w) (args : Array Value) (ha : ∀ g, #[] ++ xs.map (F g).eval ++ #[] = args)
    (hc : ∀ w, HA w0 L w → Calls Tryd.prog f args w fun e w' => e = .returned v ∧ Below w.heap.size w w') :
    OpGhost Tryd.prog .any ops Q (GC w0 L M pre la lb) F i ⟨dst, .call { callee := .value (.func f), args := xs, argTypes := ats }, ty, pos, aft, gd⟩ :=
  OpGhost.call (v := fun _ => v) (args := fun _ => args) hw hp (fun g w => by rw [execOp_call_go, ha g]; exact hr _ w) (fun _ _ w hS h' => (hc w hS.gm.held).mono fun _ _ h => ⟨h.1, hS.keep hi hl (ahead_ok he h') h.2⟩)
theorem gc_callr {f : FuncId} {xs : Array Operand} {ats : Array TypeId} {v : Value} (j : Nat) {e : Nat × TypeId × Array Value} (hj : M[j]? = some e) (hi : M.all (fun x => x.1 != i) = true) (hl : la ≠ i) (he : ahead aft (pre i) = true) (h0 : ∀ d, Cl pre d → (∀ m ∈ pre i, d m = true) → d e.1 = true)
    (hw : ∀ g, Region.wanted ⟨dst, .call { callee := .value (.func f), args := xs, argTypes := ats }, ty, pos, aft, gd⟩ (yielded ops (F g).tmps) = true) (hp : ∀ g, (F g).put dst v = F g)
    (hr : ∀ args w, (callFunc f args).run Tryd.prog w = .ok (.enter f args) w) (args : (Nat → Nat) → Array Value) (ha : ∀ g, #[] ++ xs.map (F g).eval ++ #[] = args g)
    (hc : ∀ g w, HA w0 L w → Blk w (g e.1) e.2.1 e.2.2 → Calls Tryd.prog f (args g) w fun e w' => e = .returned v ∧ Below w.heap.size w w') :
    OpGhost Tryd.prog .any ops Q (GC w0 L M pre la lb) F i ⟨dst, .call { callee := .value (.func f), args := xs, argTypes := ats }, ty, pos, aft, gd⟩ :=
  OpGhost.call (v := fun _ => v) (args := args) hw hp (fun g w => by rw [execOp_call_go, ha g]; exact hr _ w) (fun g d w hS h' => (hc g w hS.gm.held (hS.gm.get j hj (h0 d hS.seen (ahead_ok he h')))).mono fun _ _ h => ⟨h.1, hS.keep hi hl (ahead_ok he h') h.2⟩)
theorem gc_make {o : Oper} {t : TypeId} {c : Array Value} (v : Nat → Value) (hi : M.all (fun x => x.1 != i || (decide (x.2.1 = t))) = true) (hl : la ≠ i) (hb : lb ∈ pre la) (he : ahead o.after (pre i) = true) (hc : ∀ x ∈ M, x.1 = i → x.2.2 = c) (hw : ∀ g, Region.wanted o (yielded ops (F g).tmps) = true)
    (hp : ∀ g (m : Nat), (F g).put o.dst (v m) = F (up g i m)) (hr : ∀ g w, (execOp (F g).eval o).run Tryd.prog w = .ok (.value (v w.heap.size)) (w.alloc (.cells c t))) : OpGhost Tryd.prog .any ops Q (GC w0 L M pre la lb) F i o :=
  OpGhost.act (v := fun _ w => v w.heap.size) (n := fun _ w => w.heap.size) (W := fun _ w => w.alloc (.cells c t)) hw (fun g w => hp g w.heap.size) (fun g d w h hd ha => ⟨hr g w, h.gm.make hi hc, h.seen.up (ahead_ok he ha), fun e => by
    rw [up_ne _ _ hl] at e
    have hne : lb ≠ i := fun e' => by rw [← e', h.seen la e lb hb] at hd; cases hd
    rw [up_ne _ _ hl, up_ne _ _ hne]
    exact h.link e⟩)
end
section
variable {ρ : Operand → Value} {x y z u : Operand} {w : World} {dst : Option Tmp} {T ty : TypeId} {pos : String} {aft : Array Edge} {gd : Option (Nat × Bool)}
theorem run_bs4 {a b c d : ByteArray} (hx : ρ x = .string a) (hy : ρ y = .string b) (hz : ρ z = .string c) (hu : ρ u = .string d) : (execOp ρ ⟨dst, .buildSlice 26 4 #[(0, x), (1, y), (2, z), (3, u)], ty, pos, aft, gd⟩).run Tryd.prog w = .ok (.value (.slice (some ⟨w.heap.size, 0, none⟩) 4 4)) (w.alloc (.cells (psc [a, b, c, d]) 9)) := by
  simp only [execOp]
  go_simp
  rfl
theorem run_len29 {q : Option Addr} {m c : Nat} (hx : ρ x = .slice q m c) : (execOp ρ ⟨dst, .call { callee := .builtin .len, args := #[x], argTypes := #[29] }, ty, pos, aft, gd⟩).run Tryd.prog w = .ok (.value (iN .i64 m)) w := by
  simp only [execOp, iN]
  go_simp
theorem run_nes {s t : ByteArray} {T2 : TypeId} (hx : ρ x = .string s) (hy : ρ y = .string t) (r : Bool) (hr : decide (s ≠ t) = r) : (execOp ρ ⟨dst, .binOp .neq T x y T2, ty, pos, aft, gd⟩).run Tryd.prog w = .ok (.value (.bool r)) w := by
  subst hr
  have e := run_eqs (P := Tryd.prog) (w := w) (dst := dst) (T := T) (T2 := T2) (ty := ty) (pos := pos) (aft := aft) (gd := gd) hx hy _ rfl
  simp only [execOp, hx, hy] at e ⊢
  by_cases h : s = t
  · subst h; simp [binOp, go_sem, Op.stringOp]
  · have h2 : ¬s.toList = t.toList := fun e => by
      rw [ByteArray.toList_eq, ByteArray.toList_eq] at e
      exact h (bl_inj e)
    simp [binOp, go_sem, Op.stringOp, h, h2]
end
def ic (l : List Nat) : Array Value := (l.map (iN .i64)).toArray
theorem ic_get (l : List Nat) (i : Nat) (h : i < l.length) : (ic l)[i]? = some (iN .i64 (l.getD i 0)) := by simp [ic, List.getElem?_eq_getElem h]
def aS : ByteArray := ⟨(List.replicate 128 97).toArray⟩
theorem aS_eq : aS = ⟨((List.replicate 128 (97 : UInt8) ++ List.replicate (128 - 128) 0).take 128).toArray⟩ := by decide +kernel
theorem as_put (k : Nat) (hk : k < 128) : (bc (List.replicate k 97 ++ List.replicate (128 - k) 0)).setIfInBounds k (.int .u8 ((97 : Nat) : Int)) = bc (List.replicate (k + 1) 97 ++ List.replicate (128 - (k + 1)) 0) := by
  unfold bc
  rw [List.setIfInBounds_toArray, List.map_append, List.set_append_right _ _ (by simp), List.length_map, List.length_replicate, Nat.sub_self, show 128 - k = (128 - (k + 1)) + 1 by omega, List.replicate_succ, List.map_cons, List.set_cons_zero, List.replicate_succ', List.append_assoc, List.map_append]
  rfl
theorem as_len (k : Nat) (hk : k ≤ 128) : (List.replicate k (97 : UInt8) ++ List.replicate (128 - k) 0).length = 128 := by simp; omega
def nS : List Nat := [0, 55, 56, 64]
def nL : List Nat := [0, 111, 112, 128]
theorem nS_le (k : Nat) (hk : k < 4) : nS.getD k 0 ≤ aS.size := (by decide +kernel : ∀ k : Fin 4, nS.getD k.1 0 ≤ aS.size) ⟨k, hk⟩
theorem nL_le (k : Nat) (hk : k < 4) : nL.getD k 0 ≤ aS.size := (by decide +kernel : ∀ k : Fin 4, nL.getD k.1 0 ≤ aS.size) ⟨k, hk⟩
def pS (k : Nat) : ByteArray := aS.extract 0 (nS.getD k 0)
def pL (k : Nat) : ByteArray := aS.extract 0 (nL.getD k 0)
theorem pS_le (k : Nat) (hk : k < 4) : (pS k).size ≤ 1000000 := by unfold pS; rw [extract_size _ _ (nS_le k hk)]; exact Nat.le_trans (nS_le k hk) (by decide +kernel)
theorem pL_le (k : Nat) (hk : k < 4) : (pL k).size ≤ 1000000 := by unfold pL; rw [extract_size _ _ (nL_le k hk)]; exact Nat.le_trans (nL_le k hk) (by decide +kernel)
def qS (k : Nat) : ByteArray := ⟨(digP KS (catP [pS k] 1)).toArray⟩
def qL (k : Nat) : ByteArray := ⟨(digP KL (catP [pL k] 1)).toArray⟩
def hS (k : Nat) : ByteArray := ⟨(hexQ (bl (qS k)) (qS k).size).toArray⟩
def hL (k : Nat) : ByteArray := ⟨(hexQ (bl (qL k)) (qL k).size).toArray⟩
theorem sz_one (s : ByteArray) (h : s.size ≤ 1000000) : ∀ i, i ≤ 1 → szP [s] i ≤ 1000000000 := fun i hi => by
  rcases i with _ | _ | i
  · exact Nat.zero_le _
  · have e : szP [s] (0 + 1) = 0 + s.size := rfl
    rw [e]; omega
  · omega
theorem dig_szS (l : List UInt8) : (⟨(digP KS l).toArray⟩ : ByteArray).size = 32 := by
  show (digP KS l).toArray.size = 32
  rw [List.size_toArray, digP_len]
  rfl
theorem dig_szL (l : List UInt8) : (⟨(digP KL l).toArray⟩ : ByteArray).size = 64 := by
  show (digP KL l).toArray.size = 64
  rw [List.size_toArray, digP_len]
  rfl
def tS : List ByteArray := [{ data := #[101, 51, 98, 48, 99, 52, 52, 50, 57, 56, 102, 99, 49, 99, 49, 52, 57, 97, 102, 98, 102, 52, 99, 56, 57, 57, 54, 102, 98, 57, 50, 52, 50, 55, 97, 101, 52, 49, 101, 52, 54, 52, 57, 98, 57, 51, 52, 99, 97, 52, 57, 53, 57, 57, 49, 98, 55, 56, 53, 50, 98, 56, 53, 53] }, { data := #[57, 102, 52, 51, 57, 48, 102, 56, 100, 51, 48, 99, 50, 100, 100, 57, 50, 101, 99, 57, 102, 48, 57, 53, 98, 54, 53, 101, 50, 98, 57, 97, 101, 57, 98, 48, 97, 57, 50, 53, 97, 53, 50, 53, 56, 101, 50, 52, 49, 99, 57, 102, 49, 101, 57, 49, 48, 102, 55, 51, 52, 51, 49, 56] }, { data := #[98, 51, 53, 52, 51, 57, 97, 52, 97, 99, 54, 102, 48, 57, 52, 56, 98, 54, 100, 54, 102, 57, 101, 51, 99, 54, 97, 102, 48, 102, 53, 102, 53, 57, 48, 99, 101, 50, 48, 102, 49, 98, 100, 101, 55, 48, 57, 48, 101, 102, 55, 57, 55, 48, 54, 56, 54, 101, 99, 54, 55, 51, 56, 97] }, { data := #[102, 102, 101, 48, 53, 52, 102, 101, 55, 97, 101, 48, 99, 98, 54, 100, 99, 54, 53, 99, 51, 97, 102, 57, 98, 54, 49, 100, 53, 50, 48, 57, 102, 52, 51, 57, 56, 53, 49, 100, 98, 52, 51, 100, 48, 98, 97, 53, 57, 57, 55, 51, 51, 55, 100, 102, 49, 53, 52, 54, 54, 56, 101, 98] }]
def tL : List ByteArray := [{ data := #[99, 102, 56, 51, 101, 49, 51, 53, 55, 101, 101, 102, 98, 56, 98, 100, 102, 49, 53, 52, 50, 56, 53, 48, 100, 54, 54, 100, 56, 48, 48, 55, 100, 54, 50, 48, 101, 52, 48, 53, 48, 98, 53, 55, 49, 53, 100, 99, 56, 51, 102, 52, 97, 57, 50, 49, 100, 51, 54, 99, 101, 57, 99, 101, 52, 55, 100, 48, 100, 49, 51, 99, 53, 100, 56, 53, 102, 50, 98, 48, 102, 102, 56, 51, 49, 56, 100, 50, 56, 55, 55, 101, 101, 99, 50, 102, 54, 51, 98, 57, 51, 49, 98, 100, 52, 55, 52, 49, 55, 97, 56, 49, 97, 53, 51, 56, 51, 50, 55, 97, 102, 57, 50, 55, 100, 97, 51, 101] }, { data := #[102, 97, 57, 49, 50, 49, 99, 55, 98, 51, 50, 98, 57, 101, 48, 49, 55, 51, 51, 100, 48, 51, 52, 99, 102, 99, 55, 56, 99, 98, 102, 54, 55, 102, 57, 50, 54, 99, 55, 101, 100, 56, 51, 101, 56, 50, 50, 48, 48, 101, 102, 56, 54, 56, 49, 56, 49, 57, 54, 57, 50, 49, 55, 54, 48, 98, 52, 98, 101, 102, 102, 52, 56, 52, 48, 52, 100, 102, 56, 49, 49, 98, 57, 53, 51, 56, 50, 56, 50, 55, 52, 52, 54, 49, 54, 55, 51, 99, 54, 56, 100, 48, 52, 101, 50, 57, 55, 98, 48, 101, 98, 55, 98, 50, 98, 52, 100, 54, 48, 102, 99, 54, 98, 53, 54, 54, 97, 50] }, { data := #[99, 48, 49, 100, 48, 56, 48, 101, 102, 100, 52, 57, 50, 55, 55, 54, 97, 49, 99, 52, 51, 98, 100, 50, 51, 100, 100, 57, 57, 100, 48, 97, 50, 101, 54, 50, 54, 100, 52, 56, 49, 101, 49, 54, 55, 56, 50, 101, 55, 53, 100, 53, 52, 99, 50, 53, 48, 51, 98, 53, 100, 99, 51, 50, 98, 100, 48, 53, 102, 48, 102, 49, 98, 97, 51, 51, 101, 53, 54, 56, 98, 56, 56, 102, 100, 50, 100, 57, 55, 48, 57, 50, 57, 98, 55, 49, 57, 101, 99, 98, 98, 49, 53, 50, 102, 53, 56, 102, 49, 51, 48, 97, 52, 48, 55, 99, 56, 56, 51, 48, 54, 48, 52, 98, 55, 48, 99, 97] }, { data := #[98, 55, 51, 100, 49, 57, 50, 57, 97, 97, 54, 49, 53, 57, 51, 52, 101, 54, 49, 97, 56, 55, 49, 53, 57, 54, 98, 51, 102, 51, 98, 51, 51, 51, 53, 57, 102, 52, 50, 98, 56, 49, 55, 53, 54, 48, 50, 101, 56, 57, 102, 55, 101, 48, 54, 101, 53, 102, 54, 53, 56, 97, 50, 52, 51, 54, 54, 55, 56, 48, 55, 101, 100, 51, 48, 48, 51, 49, 52, 98, 57, 53, 99, 97, 99, 100, 100, 53, 55, 57, 102, 51, 101, 51, 51, 97, 98, 100, 102, 98, 101, 51, 53, 49, 57, 48, 57, 53, 49, 57, 97, 56, 52, 54, 100, 52, 54, 53, 99, 53, 57, 53, 56, 50, 102, 51, 50, 49] }]
theorem dB1_eq : digP KL (catP [{ data := #[97, 98, 99] }] 1) = bl dB := by decide +kernel
end Go.Proofs.YtdhgjnfdbhidcaaDoor
