/-
  For the closed law: a table beside other blocks; a drawn region whose last call leaves a row.
-/
import Derived.Test.YtihfeoanognonaaT21
namespace Go.Proofs.Ytihfeoanognonaa
open Go.RowKit

section
variable {ops : Array Oper} {Q : Exit → Act → World → Prop} {a : Act} {rest : List Oper} {w0 w : World} {M : ML} {t : Tb} {es : List Ent} {L : BL}
theorem wl_makeT {o : Oper} {c : Array Value} (H : TH w0 M t es L w) (ty : TypeId) (hw : Region.wanted o (yielded ops a.tmps) = true) (hr : (execOp a.eval o).run Try.prog w = .ok (.value (.pointer (some ⟨w.heap.size, 0, none⟩))) (w.alloc (.cells c ty)))
    (h : ∀ q w', TH w0 M t es ((q, ty, c) :: L) w' → WL Try.prog ops Q rest (a.put o.dst (.pointer (some ⟨q, 0, none⟩))) w') : WL Try.prog ops Q (o :: rest) a w :=
  wl_any hw hr (h _ _ (H.make ty c))
theorem wl_fillT {x y : Operand} {q : Nat} {T ty ty' : TypeId} {dst : Option Tmp} {pos : String} {aft : Array Edge} {gd : Option (Nat × Bool)} {c c' : Array Value} (H : TH w0 M t es ((q, T, c) :: L) w) (hw : Region.wanted ⟨dst, .store ty x y, ty', pos, aft, gd⟩ (yielded ops a.tmps) = true)
    (hx : a.eval x = .pointer (some ⟨q, 0, none⟩)) (hy : a.eval y = .agg c') (hs : c'.size = c.size) (hz : (Try.prog.info? ty).map (·.size) = some c'.size) (h1 : c'.all (·.oneCell') = true)
    (h : ∀ w', TH w0 M t es ((q, T, c') :: L) w' → WL Try.prog ops Q rest (a.put dst undef) w') : WL Try.prog ops Q (⟨dst, .store ty x y, ty', pos, aft, gd⟩ :: rest) a w := by
  obtain ⟨v, Lr, hR, H⟩ := H
  exact wl_fill (H.perm (perm_up _ _ _ _ _)) 0 rfl hw hx hy hs hz h1 (fun w' h' => h w' (TH.dn hR h'))
theorem Make_argN (H : TH w0 M t es L w) (z : Int) (label : ByteArray) (n : Nat) (o : Option Addr) (cc : Nat) (hmb : mayB z label n = false) :
    Calls Try.prog 18 #[pt t.q, .int .i64 z, .string label, .slice o n cc] w fun e w' => e = .returned (.tuple #[.string { data := #[] }, iN .i64 2]) ∧ TH w0 M t es L w' := by
  have := Make_arg H z label (List.replicate n ByteArray.empty) o cc (by rw [List.length_replicate]; exact hmb)
  rwa [List.length_replicate] at this
theorem Stab.th : Stab (fun w => TH w0 M t es L w) := fun _ _ hb h => TH.keep h hb
theorem within_row (H : TH w0 M t es L w) (hm : es.length ≤ 65536) {m0 : Int} (hv : w0.cell? ⟨0, 0, none⟩ = some (.int .i64 m0)) (S : ByteArray) (hs : S.size ≤ 1000000) (l : List Nat) (hl : wth es.length S = l) (hne : l ≠ []) :
    Calls Try.prog 13 #[pt t.q, .string S] w fun e w' => ∃ n, e = .returned (slu n l.length) ∧ TH w0 M t es L w' ∧ ∃ c, (∀ j, j < l.length → c[j]? = some (iN .i64 (l.getD j 0))) ∧ TH w0 M t es (((unp n).1, 3, c) :: L) w' := by
  refine (Within_any (TH.view H) hm (cell_below (TH.below H) hv) S hs).mono ?_
  rintro e w' ⟨o, c, rfl, hr, hb⟩
  rw [hl] at hr ⊢
  rcases hr with hr | ⟨q, cc, rfl, h2, h3, h4⟩
  · exact absurd hr hne
  · obtain ⟨n, hn⟩ := unp_all (q + c) q c rfl
    exact ⟨n, by rw [slu, hn], TH.keep H hb, cc, h4, by rw [hn]; exact TH.add H hb h2 h3⟩
end
structure GA (R P0 : World → Prop) (P1 : Nat → World → Prop) (P2 : Nat → Nat → World → Prop) (pre : Nat → List Nat) (i0 i1 : Nat) (g : Nat → Nat) (d : Nat → Bool) (w : World) : Prop where
  all : R w
  held : if d i1 = true then P2 (g i0) (g i1) w else if d i0 = true then P1 (g i0) w else P0 w
  seen : Cl pre d
section
variable {ops : Array Oper} {Q : Exit → Act → World → Prop} {F : (Nat → Nat) → Act} {i i0 i1 : Nat} {dst : Option Tmp} {ty : TypeId} {pos : String} {aft : Array Edge} {gd : Option (Nat × Bool)}
  {R P0 : World → Prop} {P1 : Nat → World → Prop} {P2 : Nat → Nat → World → Prop} {pre : Nat → List Nat}
theorem GA.start {g : Nat → Nat} {d : Nat → Bool} {w : World} (hR : R w) (h : P0 w) (hd : d i0 = false) (hd1 : d i1 = false) (hc : Cl pre d) : GA R P0 P1 P2 pre i0 i1 g d w := ⟨hR, by rw [hd, hd1]; exact h, hc⟩
theorem GA.keep {g : Nat → Nat} {d : Nat → Bool} {w : World} (h : GA R P0 P1 P2 pre i0 i1 g d w) (h0 : i ≠ i0) (h1 : i ≠ i1) (hm : ∀ m ∈ pre i, d m = true) : GA R P0 P1 P2 pre i0 i1 g (up d i true) w :=
  ⟨h.all, by rw [up_ne _ _ (Ne.symm h0), up_ne _ _ (Ne.symm h1)]; exact h.held, h.seen.up hm⟩
theorem ga_read {o : Oper} {v : (Nat → Nat) → Value} (h0 : i ≠ i0) (h1 : i ≠ i1) (he : ahead o.after (pre i) = true) (hw : ∀ g, Region.wanted o (yielded ops (F g).tmps) = true) (hp : ∀ g, (F g).put o.dst (v g) = F g)
    (hr : ∀ g w, R w → (execOp (F g).eval o).run Try.prog w = .ok (.value (v g)) w) : OpGhost Try.prog .any ops Q (GA R P0 P1 P2 pre i0 i1) F i o :=
  OpGhost.take hw hp (fun g _ w h ha => ⟨hr g w h.all, h.keep h0 h1 (ahead_ok he ha)⟩)
theorem ga_call {f : FuncId} {xs : Array Operand} {ats : Array TypeId} {v : (Nat → Nat) → Value} {args : (Nat → Nat) → Array Value} (sR : Stab R) (s0 : Stab P0) (s1 : ∀ n, Stab (P1 n)) (s2 : ∀ n m, Stab (P2 n m)) (h0 : i ≠ i0) (h1 : i ≠ i1) (he : ahead aft (pre i) = true)
    (hw : ∀ g, Region.wanted ⟨dst, .call { callee := .value (.func f), args := xs, argTypes := ats }, ty, pos, aft, gd⟩ (yielded ops (F g).tmps) = true) (hp : ∀ g, (F g).put dst (v g) = F g)
    (hr : ∀ args w, (callFunc f args).run Try.prog w = .ok (.enter f args) w) (ha : ∀ g, #[] ++ xs.map (F g).eval ++ #[] = args g)
    (hc : ∀ g w, R w → Calls Try.prog f (args g) w fun e w' => e = .returned (v g) ∧ Below w.heap.size w w') : OpGhost Try.prog .any ops Q (GA R P0 P1 P2 pre i0 i1) F i ⟨dst, .call { callee := .value (.func f), args := xs, argTypes := ats }, ty, pos, aft, gd⟩ :=
  OpGhost.call (v := v) (args := args) hw hp (fun g w => by rw [execOp_call_go, ha g]; exact hr _ w) (fun g _ w h ha => (hc g w h.all).mono fun e w' h' => ⟨h'.1, sR _ _ h'.2 h.all, by
    rw [up_ne _ _ (Ne.symm h0), up_ne _ _ (Ne.symm h1)]
    have := h.held
    split
    · rename_i k2; rw [if_pos k2] at this; exact s2 _ _ _ _ h'.2 this
    · rename_i k2; rw [if_neg k2] at this
      split
      · rename_i k3; rw [if_pos k3] at this; exact s1 _ _ _ h'.2 this
      · rename_i k3; rw [if_neg k3] at this; exact s0 _ _ h'.2 this, h.seen.up (ahead_ok he ha)⟩)
theorem ga_call0 {f : FuncId} {xs : Array Operand} {ats : Array TypeId} {v : Nat → Value} {args : Array Value} (h01 : i0 ≠ i1) (h1 : i0 ∈ pre i1) (he : ahead aft (pre i0) = true)
    (hw : ∀ g, Region.wanted ⟨dst, .call { callee := .value (.func f), args := xs, argTypes := ats }, ty, pos, aft, gd⟩ (yielded ops (F g).tmps) = true) (hp : ∀ g n, (F g).put dst (v n) = F (up g i0 n))
    (hr : ∀ args w, (callFunc f args).run Try.prog w = .ok (.enter f args) w) (ha : ∀ g, #[] ++ xs.map (F g).eval ++ #[] = args)
    (hc : ∀ w, R w → P0 w → Calls Try.prog f args w fun e w' => ∃ n, e = .returned (v n) ∧ R w' ∧ P1 n w') : OpGhost Try.prog .any ops Q (GA R P0 P1 P2 pre i0 i1) F i0 ⟨dst, .call { callee := .value (.func f), args := xs, argTypes := ats }, ty, pos, aft, gd⟩ := fun g d w h hdi haft => by
  rw [if_pos (hw g)]
  unfold Oper.wp
  have e0 : ¬ d i0 = true := by rw [hdi]; decide
  have e1 : ¬ d i1 = true := fun h' => e0 (h.seen i1 h' i0 h1)
  have hH := h.held
  rw [if_neg e1, if_neg e0] at hH
  rw [execOp_call_go, ha g, hr]
  refine (hc w h.all hH).mono ?_
  rintro e w' ⟨n, rfl, hR, hP⟩
  exact ⟨n, hp g n, hR, by rw [up_ne _ _ (Ne.symm h01), if_neg e1, up_at, if_pos rfl, up_at]; exact hP, h.seen.up (ahead_ok he haft)⟩
theorem ga_act1 {o : Oper} {v : Nat → Value} (h01 : i0 ≠ i1) (h1 : i0 ∈ pre i1) (he : ahead o.after (pre i1) = true) (hw : ∀ g, Region.wanted o (yielded ops (F g).tmps) = true)
    (hp : ∀ g n, (F g).put o.dst (v n) = F (up g i1 n))
    (hr : ∀ g w, R w → P1 (g i0) w → ∃ n, (execOp (F g).eval o).run Try.prog w = .ok (.value (v n)) w ∧ P2 (g i0) n w) : OpGhost Try.prog .any ops Q (GA R P0 P1 P2 pre i0 i1) F i1 o := fun g d w h hdi haft => by
  rw [if_pos (hw g)]
  unfold Oper.wp
  have e1 : ¬ d i1 = true := by rw [hdi]; decide
  have e0 : d i0 = true := ahead_ok he haft i0 h1
  have hH := h.held
  rw [if_neg e1, if_pos e0] at hH
  obtain ⟨n, hrun, hP⟩ := hr g w h.all hH
  rw [hrun]
  exact ⟨n, hp g n, h.all, by rw [up_at, if_pos rfl, up_ne _ _ h01, up_at]; exact hP, h.seen.up (ahead_ok he haft)⟩
end
def nS : ByteArray := { data := #[110] }
def yS : ByteArray := { data := #[121] }
def xxS : ByteArray := { data := #[120] }
def xS : ByteArray := { data := #[120] } ++ txt 0
def cS : ByteArray := txt 0 ++ txt 3
def wS1 : ByteArray := { data := #[240, 84, 82, 77] } ++ txt 3
def wS2 : ByteArray := wS1 ++ txt 99
def wS0 : ByteArray := (txt 1).extract 0 7
def wS3 : ByteArray := wS2 ++ wS0
def wS4 : ByteArray := wS3 ++ txt 1
theorem xS_size : xS.size = 9 := by unfold xS; rw [ByteArray.size_append, txt_size]; rfl
theorem cS_size : cS.size = 16 := by unfold cS; rw [ByteArray.size_append, txt_size, txt_size]
theorem wS0_size : wS0.size = 7 := by unfold wS0; rw [ByteArray.size_extract, txt_size]; rfl
theorem wS1_size : wS1.size = 12 := by unfold wS1; rw [ByteArray.size_append, txt_size]; rfl
theorem wS2_size : wS2.size = 20 := by unfold wS2; rw [ByteArray.size_append, wS1_size, txt_size]
theorem wS3_size : wS3.size = 27 := by unfold wS3; rw [ByteArray.size_append, wS2_size, wS0_size]
theorem wS4_size : wS4.size = 35 := by unfold wS4; rw [ByteArray.size_append, wS3_size, txt_size]
theorem wS_wth : wth 13 wS4 = [1, 3] := by kernel_rfl
theorem cS_wth : wth 10 cS = [0, 3] := by kernel_rfl
theorem xS_wth : wth 10 xS = [0] := by kernel_rfl
def zC : Array Value := bc (List.replicate 65537 0)
def zS : ByteArray := ⟨((List.replicate 65537 (0 : UInt8)).take 65537).toArray⟩
theorem zS_size : 65536 < zS.size := by
  show 65536 < ((List.replicate 65537 (0 : UInt8)).take 65537).toArray.size
  rw [List.size_toArray, List.length_take, List.length_replicate]
  decide
section
variable {ρ : Operand → Value} {x y : Operand} {w : World} {dst : Option Tmp} {ty : TypeId} {pos : String} {aft : Array Edge} {gd : Option (Nat × Bool)} {q : Nat}
theorem run_mkz (hx : ρ x = iN .i64 65537) (hy : ρ y = iN .i64 65537) : (execOp ρ ⟨dst, .makeSlice 60 x y, ty, pos, aft, gd⟩).run Try.prog w = .ok (.value (.slice (some ⟨w.heap.size, 0, none⟩) 65537 65537)) (w.alloc (.cells zC 5)) :=
  run_mk hx hy (Nat.le_refl _) (by decide)
theorem run_textz {c : Nat} (hx : ρ x = .slice (some ⟨q, 0, none⟩) 65537 c) (h : Blk w q 5 zC) : (execOp ρ ⟨dst, .convert 60 9 x, ty, pos, aft, gd⟩).run Try.prog w = .ok (.value (.string zS)) w :=
  run_textg (l := List.replicate 65537 0) hx h (by rw [List.length_replicate]; exact Nat.le_refl _)
end
end Go.Proofs.Ytihfeoanognonaa
