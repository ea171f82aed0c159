/-
  A region that draws its order and makes rows whose cells name rows that it makes too.
-/
import Derived.Test.YtiogegoepgkjlaaGH
namespace Go.Proofs.Ytiogegoepgkjlaa
open Go.RowKit

/-- number, type, those that it waits for, cells by their places -/
abbrev GE' := Nat × TypeId × List Nat × ((Nat → Nat) → Array Value)
structure GN (w0 : Base) (L : BL) (M : List GE') (E : List (Nat × Nat)) (g : Nat → Nat) (d : Nat → Bool) (w : World) : Prop where
  held : HA w0 L w
  made : ∀ x ∈ M, d x.1 = true → Blk w (g x.1) x.2.1 (x.2.2.2 g) ∧ ∀ e ∈ x.2.2.1, d e = true
  echo : ∀ x ∈ E, d x.1 = true → d x.2 = true ∧ g x.1 = g x.2
section
variable {w0 : Base} {L : BL} {M : List GE'} {E : List (Nat × Nat)} {g : Nat → Nat} {d : Nat → Bool} {w : World}
theorem GN.start (h : HA w0 L w) (n : Nat) (hM : M.all (fun x => decide (x.1 < n)) = true) (hE : E.all (fun x => decide (x.1 < n)) = true) (hd : ∀ j, j < n → d j = false) : GN w0 L M E g d w :=
  ⟨h, fun x hx h1 => (by
    have := hd x.1 (of_decide_eq_true (List.all_eq_true.1 hM x hx))
    rw [h1] at this
    cases this), fun x hx h1 => (by
    have := hd x.1 (of_decide_eq_true (List.all_eq_true.1 hE x hx))
    rw [h1] at this
    cases this)⟩
theorem upT {d : Nat → Bool} {i e : Nat} (h : d e = true) : up d i true e = true := by
  unfold up
  split
  · rfl
  · exact h
theorem GN.call (h : GN w0 L M E g d w) {i : Nat} (hi : M.all (fun x => x.1 != i) = true) (hj : E.all (fun x => x.1 != i) = true) {w' : World} (hb : Below w.heap.size w w') : GN w0 L M E g (up d i true) w' :=
  ⟨h.held.keep _ _ hb, fun x hx h1 => by
    have hne : x.1 ≠ i := bne_iff_ne.1 (List.all_eq_true.1 hi x hx)
    rw [up_ne _ _ hne] at h1
    have h2 := h.made x hx h1
    exact ⟨h2.1.keep hb, fun e he => upT (h2.2 e he)⟩, fun x hx h1 => by
    have hne : x.1 ≠ i := bne_iff_ne.1 (List.all_eq_true.1 hj x hx)
    rw [up_ne _ _ hne] at h1
    have h2 := h.echo x hx h1
    exact ⟨upT h2.1, h2.2⟩⟩
theorem ne_drawn {d : Nat → Bool} {i e : Nat} (hdi : d i = false) (he : d e = true) : e ≠ i := fun hh => by
  rw [hh, hdi] at he
  cases he
theorem GN.make (h : GN w0 L M E g d w) (hok : ∀ x ∈ M, ∀ (g : Nat → Nat) (i n : Nat), i ∉ x.2.2.1 → x.2.2.2 (up g i n) = x.2.2.2 g) {i : Nat} (hdi : d i = false) (hj : E.all (fun x => x.1 != i) = true) {t : TypeId} {dep : List Nat} {c : (Nat → Nat) → Array Value} (hc : ∀ x ∈ M, x.1 = i → x.2 = (t, dep, c)) (hdep : ∀ e ∈ dep, d e = true) : GN w0 L M E (up g i w.heap.size) (up d i true) (w.alloc (.cells (c g) t)) :=
  ⟨⟨h.held.old.alloc _, fun x hx => (h.held.blk x hx).alloc _, h.held.own, h.held.nd⟩, fun x hx h1 => by
    by_cases hne : x.1 = i
    · have h2 := hc x hx hne
      have hin : i ∉ x.2.2.1 := fun hi => by
        rw [h2] at hi
        have := hdep i hi
        rw [hdi] at this
        cases this
      rw [hok x hx g i _ hin, hne, up_at, h2]
      exact ⟨Blk.new w t (c g), fun e he => upT (hdep e he)⟩
    · rw [up_ne _ _ hne] at h1 ⊢
      have h2 := h.made x hx h1
      have hin : i ∉ x.2.2.1 := fun hi => by
        have := h2.2 i hi
        rw [hdi] at this
        cases this
      rw [hok x hx g i _ hin]
      exact ⟨h2.1.alloc _, fun e he => upT (h2.2 e he)⟩, fun x hx h1 => by
    have hne : x.1 ≠ i := bne_iff_ne.1 (List.all_eq_true.1 hj x hx)
    rw [up_ne _ _ hne] at h1
    have h2 := h.echo x hx h1
    exact ⟨upT h2.1, by rw [up_ne g _ hne, up_ne g _ (ne_drawn hdi h2.1)]; exact h2.2⟩⟩
theorem GN.echoed (h : GN w0 L M E g d w) (hok : ∀ x ∈ M, ∀ (g : Nat → Nat) (i n : Nat), i ∉ x.2.2.1 → x.2.2.2 (up g i n) = x.2.2.2 g) {i k : Nat} (hdi : d i = false) (hi : M.all (fun x => x.1 != i) = true) (hj : ∀ x ∈ E, x.1 = i → x.2 = k) (hk : d k = true) : GN w0 L M E (up g i (g k)) (up d i true) w :=
  ⟨h.held, fun x hx h1 => by
    have hne : x.1 ≠ i := bne_iff_ne.1 (List.all_eq_true.1 hi x hx)
    rw [up_ne _ _ hne] at h1 ⊢
    have h2 := h.made x hx h1
    have hin : i ∉ x.2.2.1 := fun hi => by
      have := h2.2 i hi
      rw [hdi] at this
      cases this
    rw [hok x hx g i _ hin]
    exact ⟨h2.1, fun e he => upT (h2.2 e he)⟩, fun x hx h1 => by
    by_cases hne : x.1 = i
    · rw [hj x hx hne, hne]
      exact ⟨upT hk, by rw [up_at, up_ne g _ (ne_drawn hdi hk)]⟩
    · rw [up_ne _ _ hne] at h1
      have h2 := h.echo x hx h1
      exact ⟨upT h2.1, by rw [up_ne g _ hne, up_ne g _ (ne_drawn hdi h2.1)]; exact h2.2⟩⟩
theorem GN.told (h : GN w0 L M E g (fun _ => true) w) (i : Nat) {x : Nat × Nat} (hi : E[i]? = some x) : g x.2 = g x.1 := (h.echo x (List.mem_of_getElem? hi) rfl).2.symm
theorem GN.get (h : GN w0 L M E g (fun _ => true) w) (i : Nat) {x : GE'} (hi : M[i]? = some x) : Blk w (g x.1) x.2.1 (x.2.2.2 g) := (h.made x (List.mem_of_getElem? hi) rfl).1
end
section
variable {ops : Array Oper} {Q : Exit → Act → World → Prop} {F : (Nat → Nat) → Act} {md : Region.Mode} {i : Nat} {dst : Option Tmp} {ty ty' : TypeId} {pos : String} {aft : Array Edge} {gd : Option (Nat × Bool)}
  {w0 : Base} {L : BL} {M : List GE'} {E : List (Nat × Nat)}
theorem gn_plain {o : Oper} {v : (Nat → Nat) → Value} (hi : M.all (fun x => x.1 != i) = true) (hj : E.all (fun x => x.1 != i) = true) (hw : ∀ g, Region.wanted o (yielded ops (F g).tmps) = true) (hp : ∀ g, (F g).put o.dst (v g) = F g)
    (hr : ∀ g w, (execOp (F g).eval o).run Try.prog w = .ok (.value (v g)) w) : OpGhost Try.prog md ops Q (GN w0 L M E) F i o :=
  OpGhost.take (v := v) hw hp (fun g _ w h _ => ⟨hr g w, h.call hi hj (Below.refl _ w)⟩)
theorem gn_held {o : Oper} {v : (Nat → Nat) → Value} (hi : M.all (fun x => x.1 != i) = true) (hj : E.all (fun x => x.1 != i) = true) (hw : ∀ g, Region.wanted o (yielded ops (F g).tmps) = true) (hp : ∀ g, (F g).put o.dst (v g) = F g)
    (hr : ∀ g w, HA w0 L w → (execOp (F g).eval o).run Try.prog w = .ok (.value (v g)) w) : OpGhost Try.prog md ops Q (GN w0 L M E) F i o :=
  OpGhost.take (v := v) hw hp (fun g _ w h _ => ⟨hr g w h.held, h.call hi hj (Below.refl _ w)⟩)
theorem gn_make {o : Oper} {t : TypeId} {dep : List Nat} {c : (Nat → Nat) → Array Value} (v : Nat → Value) (hok : ∀ x ∈ M, ∀ (g : Nat → Nat) (i n : Nat), i ∉ x.2.2.1 → x.2.2.2 (up g i n) = x.2.2.2 g) (hc : ∀ x ∈ M, x.1 = i → x.2 = (t, dep, c)) (hj : E.all (fun x => x.1 != i) = true) (he : dep.all (fun k => o.after.any fun e => Region.binds md e && e.on == k) = true) (hw : ∀ g, Region.wanted o (yielded ops (F g).tmps) = true)
    (hp : ∀ g (m : Nat), (F g).put o.dst (v m) = F (up g i m)) (hr : ∀ g w, (execOp (F g).eval o).run Try.prog w = .ok (.value (v w.heap.size)) (w.alloc (.cells (c g) t))) : OpGhost Try.prog md ops Q (GN w0 L M E) F i o :=
  OpGhost.act (v := fun _ w => v w.heap.size) (n := fun _ w => w.heap.size) (W := fun g w => w.alloc (.cells (c g) t)) hw (fun g w => hp g w.heap.size) (fun g d w h hdi haft => ⟨hr g w, h.make hok hdi hj hc fun k hk => by
    obtain ⟨m, hm, h3⟩ := Array.any_eq_true.1 (List.all_eq_true.1 he k hk)
    rw [Bool.and_eq_true, beq_iff_eq] at h3
    rw [← h3.2]
    exact haft _ (Array.getElem_mem hm) h3.1⟩)
theorem gn_echo {o : Oper} {k : Nat} (v : Nat → Value) (hok : ∀ x ∈ M, ∀ (g : Nat → Nat) (i n : Nat), i ∉ x.2.2.1 → x.2.2.2 (up g i n) = x.2.2.2 g) (hi : M.all (fun x => x.1 != i) = true) (hj : E.all (fun x => x.1 != i || x.2 == k) = true) (he : (o.after.any fun e => Region.binds md e && e.on == k) = true) (hw : ∀ g, Region.wanted o (yielded ops (F g).tmps) = true)
    (hp : ∀ g (m : Nat), (F g).put o.dst (v m) = F (up g i m)) (hr : ∀ g w, (execOp (F g).eval o).run Try.prog w = .ok (.value (v (g k))) w) : OpGhost Try.prog md ops Q (GN w0 L M E) F i o :=
  OpGhost.act (v := fun g _ => v (g k)) (n := fun g _ => g k) (W := fun _ w => w) hw (fun g w => hp g (g k)) (fun g d w h hdi haft => ⟨hr g w, h.echoed hok hdi hi (fun x hx hxi => by
    have h3 := List.all_eq_true.1 hj x hx
    rw [Bool.or_eq_true, bne_iff_ne, beq_iff_eq] at h3
    exact h3.resolve_left (fun hh => hh hxi)) (by
    obtain ⟨m, hm, h3⟩ := Array.any_eq_true.1 he
    rw [Bool.and_eq_true, beq_iff_eq] at h3
    rw [← h3.2]
    exact haft _ (Array.getElem_mem hm) h3.1)⟩)
end
end Go.Proofs.Ytiogegoepgkjlaa
