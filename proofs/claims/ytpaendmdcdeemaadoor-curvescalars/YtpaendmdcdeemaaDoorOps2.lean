/-
  The reference's digits as cells; more operations.
-/
import Derived.Test.YtpaendmdcdeemaaDoorCB
namespace Go.Proofs.YtpaendmdcdeemaaDoor
open Go.RowKit Num

/-- 16 digits of 16 bits -/
def rl (n : Nat) : Array Value := cl .u32 (digs 65536 16 n)
def rarr (n : Nat) : Value := .agg (rl n)
theorem rl_size (n : Nat) : (rl n).size = 16 := rfl
theorem rl_sz (n m : Nat) : (rl n).size = (rl m).size := rfl
theorem one_rl (n : Nat) : (rl n).all (·.oneCell') = true := one_cl _ _
theorem info32 : (Tryd.prog.info? 32).map (·.size) = some 16 := by kernel_rfl
theorem info_rl (n : Nat) : (Tryd.prog.info? 32).map (·.size) = some (rl n).size := info32
theorem rl_get (n j : Nat) (hj : j < 16) : (rl n)[j]? = some (iN .u32 (n / 65536 ^ j % 65536)) := by
  unfold rl
  rw [cl_get .u32 _ j (by rw [digs_length]; exact hj), digs_get]
  rfl
theorem rl_put (n j x : Nat) (hn : n < 65536 ^ j) (hj : j < 16) (hx : x < 65536) : (rl n).setIfInBounds j (.int .u32 (x : Int)) = rl (n + x * 65536 ^ j) := by
  unfold rl
  rw [← digs_push 65536 16 n j x hn hj hx]
  simp [cl, List.map_set]
theorem run_alloc32 {ρ : Operand → Value} {w : World} {dst : Option Tmp} {ty : TypeId} {pos : String} {aft : Array Edge} {gd : Option (Nat × Bool)} :
    (execOp ρ ⟨dst, .alloc 32, ty, pos, aft, gd⟩).run Tryd.prog w = .ok (.value (.pointer (some ⟨w.heap.size, 0, none⟩))) (w.alloc (.cells (rl 0) 32)) := by
  simp only [execOp]
  go_simp
  rfl
theorem run_box32 {ρ : Operand → Value} {x : Operand} {c : Array Value} {w : World} {dst : Option Tmp} {ty : TypeId} {pos : String} {aft : Array Edge} {gd : Option (Nat × Bool)} (hx : ρ x = .agg c) :
    (execOp ρ ⟨dst, .box 32 x, ty, pos, aft, gd⟩).run Tryd.prog w = .ok (.value (.pointer (some ⟨w.heap.size, 0, none⟩))) (w.alloc (.cells c 32)) := by
  simp only [execOp, hx]
  go_simp
theorem run_build0 {ρ : Operand → Value} {w : World} {dst : Option Tmp} {ty : TypeId} {pos : String} {aft : Array Edge} {gd : Option (Nat × Bool)} :
    (execOp ρ ⟨dst, .build 32 #[], ty, pos, aft, gd⟩).run Tryd.prog w = .ok (.value (rarr 0)) w := by
  simp only [execOp]
  go_simp
  rfl
theorem run_build2 {ρ : Operand → Value} {x y : Operand} {a b : Nat} {w : World} {dst : Option Tmp} {ty : TypeId} {pos : String} {aft : Array Edge} {gd : Option (Nat × Bool)} (hx : ρ x = iN .u32 a) (hy : ρ y = iN .u32 b) (ha : a < 65536) (hb : b < 65536) :
    (execOp ρ ⟨dst, .build 32 #[(0, x), (1, y)], ty, pos, aft, gd⟩).run Tryd.prog w = .ok (.value (rarr (a + b * 65536))) w := by
  have e : rarr (a + b * 65536) = .agg #[iN .u32 a, iN .u32 b, iN .u32 0, iN .u32 0, iN .u32 0, iN .u32 0, iN .u32 0, iN .u32 0, iN .u32 0, iN .u32 0, iN .u32 0, iN .u32 0, iN .u32 0, iN .u32 0, iN .u32 0, iN .u32 0] := by
    have h : digs 65536 16 (a + b * 65536) = [a, b, 0, 0, 0, 0, 0, 0, 0, 0, 0, 0, 0, 0, 0, 0] := by
      have : a + b * 65536 = num 65536 [a, b, 0, 0, 0, 0, 0, 0, 0, 0, 0, 0, 0, 0, 0, 0] := by simp [num]; omega
      rw [this]
      refine digs_num 65536 _ (fun x hx => ?_) 16 rfl
      simp at hx
      omega
    unfold rarr rl
    rw [h]
    rfl
  rw [e]
  simp only [execOp, iN] at hx hy ⊢
  simp only [Array.map]
  go_simp
theorem run_len {ρ : Operand → Value} {x : Operand} {s : ByteArray} {w : World} {dst : Option Tmp} {ty : TypeId} {pos : String} {aft : Array Edge} {gd : Option (Nat × Bool)} (hx : ρ x = .string s) :
    (execOp ρ ⟨dst, .call { callee := .builtin .len, args := #[x], argTypes := #[9] }, ty, pos, aft, gd⟩).run Tryd.prog w = .ok (.value (iN .i64 s.size)) w := by
  simp only [execOp, iN]
  go_simp
theorem run_geq0 {ρ : Operand → Value} {x y : Operand} {w : World} {dst : Option Tmp} {T T2 ty : TypeId} {pos : String} {aft : Array Edge} {gd : Option (Nat × Bool)} {P : Program} {k : IntKind} {a b : Int} (hx : ρ x = .int k a) (hy : ρ y = .int k b) (t : Bool) (ht : decide (b ≤ a) = t) :
    (execOp ρ ⟨dst, .binOp .geq T x y T2, ty, pos, aft, gd⟩).run P w = .ok (.value (.bool t)) w := by
  subst ht
  simp only [execOp, hx, hy]
  simp [binOp, go_sem]
/-- a counter that goes down to below nought -/
def dnv : Nat → Value
  | 0 => .int .i64 (-1)
  | j + 1 => iN .i64 j
theorem run_dec {ρ : Operand → Value} {x y : Operand} {w : World} {dst : Option Tmp} {T T2 ty : TypeId} {pos : String} {aft : Array Edge} {gd : Option (Nat × Bool)} {P : Program} {j : Nat} (hj : j < 1000) (hx : ρ x = iN .i64 j) (hy : ρ y = iN .i64 1) :
    (execOp ρ ⟨dst, .binOp .sub T x y T2, ty, pos, aft, gd⟩).run P w = .ok (.value (dnv j)) w := by
  cases j with
  | zero =>
    simp only [execOp, hx, hy, iN, dnv]
    simp [binOp, go_sem, IntKind.wrap, IntKind.bits, IntKind.signed]
  | succ j =>
    have h := run_sub (ρ := ρ) (x := x) (y := y) (w := w) (dst := dst) (T := T) (T2 := T2) (ty := ty) (pos := pos) (aft := aft) (gd := gd) (P := P) (k := .i64) (a := j + 1) (b := 1) hx hy (by omega) (by simp only [top]; omega)
    exact h

theorem run_conv8 {ρ : Operand → Value} {x : Operand} {a : Nat} {w : World} {dst : Option Tmp} {T T2 ty : TypeId} {pos : String} {aft : Array Edge} {gd : Option (Nat × Bool)} {P : Program} {k : IntKind} (hT : P.underlying T = some (.int k)) (hT2 : P.underlying T2 = some (.int .u8)) (hx : ρ x = iN k a) :
    (execOp ρ ⟨dst, .convert T T2 x, ty, pos, aft, gd⟩).run P w = .ok (.value (iN .u8 (a % 256))) w := by
  simp only [execOp, hx, iN]
  have h : IntKind.u8.wrap (a : Int) = ((a % 256 : Nat) : Int) := by rw [IntKind.wrap_u8']; omega
  simpa [go_sem, hT, hT2] using h
theorem prime_grow (k : Nat) : 65536 ^ k - 1 + 65535 * 65536 ^ k = 65536 ^ (k + 1) - 1 := by
  have h : 0 < 65536 ^ k := Nat.pow_pos (by decide)
  rw [Nat.pow_succ]
  omega
theorem prime_cells : ((rl (65536 ^ 16 - 1)).setIfInBounds 0 (iN .u32 65517)).setIfInBounds 15 (iN .u32 32767) = rl P := by kernel_rfl

/-- a region that draws its order and puts one cell, by number i0 -/
def GP (w0 : World) (L : List (Nat × TypeId × Array Value)) (i0 j q : Nat) (t : TypeId) (c : Array Value) (_ : Nat → Nat) (d : Nat → Bool) (w : World) : Prop := HA w0 (if d i0 = true then L.set j (q, t, c) else L) w
section
variable {ops : Array Oper} {Q : Exit → Act → World → Prop} {F : (Nat → Nat) → Act} {md : Region.Mode} {i i0 j q : Nat} {dst : Option Tmp} {T ty : TypeId} {pos : String} {aft : Array Edge} {gd : Option (Nat × Bool)}
  {w0 : World} {L : List (Nat × TypeId × Array Value)} {t : TypeId} {c : Array Value}
theorem GP.keep {g : Nat → Nat} {d : Nat → Bool} {w : World} (h : GP w0 L i0 j q t c g d w) (hi : i ≠ i0) : GP w0 L i0 j q t c g (up d i true) w := by
  unfold GP
  rw [up_ne _ _ (Ne.symm hi)]
  exact h
theorem GP.get {g : Nat → Nat} {d : Nat → Bool} {w : World} (h : GP w0 L i0 j q t c g d w) (m : Nat) (hm : j ≠ m) {x : Nat × TypeId × Array Value} (hx : L[m]? = some x) : Blk w x.1 x.2.1 x.2.2 := by
  unfold GP at h
  split at h
  · exact h.get m (by rw [List.getElem?_set_ne hm]; exact hx)
  · exact h.get m hx
theorem gp_plain {o : Oper} {v : Value} (hi : i ≠ i0) (hw : ∀ g, Region.wanted o (yielded ops (F g).tmps) = true) (hp : ∀ g, (F g).put o.dst v = F g)
    (hr : ∀ g w, (execOp (F g).eval o).run Tryd.prog w = .ok (.value v) w) : OpGhost Tryd.prog md ops Q (GP w0 L i0 j q t c) F i o :=
  OpGhost.take (v := fun _ => v) hw hp (fun g _ w h _ => ⟨hr g w, h.keep hi⟩)
theorem gp_cell {x : Operand} {v : Value} {e : Nat × TypeId × Array Value} (m : Nat) (hm : j ≠ m) (hx : L[m]? = some e) (hi : i ≠ i0) (off : Nat) (hv : e.2.2[off]? = some v) (hg : ∀ w, (isAgg T).run Tryd.prog w = .ok false w) (hw : ∀ g, Region.wanted ⟨dst, .load T x, ty, pos, aft, gd⟩ (yielded ops (F g).tmps) = true) (hp : ∀ g, (F g).put dst v = F g)
    (ha : ∀ g, (F g).eval x = .pointer (some ⟨e.1, off, none⟩)) : OpGhost Tryd.prog md ops Q (GP w0 L i0 j q t c) F i ⟨dst, .load T x, ty, pos, aft, gd⟩ :=
  OpGhost.take (v := fun _ => v) hw hp (fun g _ _ h _ => ⟨run_load1 hg (ha g) (((h.get m hm hx).cell off).trans hv), h.keep hi⟩)
theorem gp_put {x y : Operand} {k : IntKind} {z : Int} {c0 : Array Value} {off : Nat} (hL : L[j]? = some (q, t, c0)) (hoff : off < c0.size) (hc : c0.setIfInBounds off (.int k z) = c) (hs : ∀ w, (sizeOf T).run Tryd.prog w = .ok 1 w)
    (hw : ∀ g, Region.wanted ⟨dst, .store T x y, ty, pos, aft, gd⟩ (yielded ops (F g).tmps) = true) (hp : ∀ g, (F g).put dst undef = F g) (hx : ∀ g, (F g).eval x = .pointer (some ⟨q, off, none⟩)) (hy : ∀ g, (F g).eval y = .int k z) :
    OpGhost Tryd.prog md ops Q (GP w0 L i0 j q t c) F i0 ⟨dst, .store T x y, ty, pos, aft, gd⟩ :=
  OpGhost.skips (W := fun _ w => w.setCell ⟨q, off, none⟩ (.int k z)) hw hp (fun g d w h hd _ => by
    unfold GP at h ⊢
    rw [hd, if_neg (by decide)] at h
    rw [up_at, if_pos rfl]
    refine ⟨run_store1 hs (hx g) (hy g) (by rw [(h.get j hL).cell off]; simp [hoff]) ((h.get j hL).free off hoff), ?_⟩
    have := h.put j hL off (.int k z)
    rw [hc] at this
    exact this)
theorem GP.start {g : Nat → Nat} {d : Nat → Bool} {w : World} (h : HA w0 L w) (hd : d i0 = false) : GP w0 L i0 j q t c g d w := by
  unfold GP
  rw [hd]
  exact h
end
end Go.Proofs.YtpaendmdcdeemaaDoor
