/-
 Open: what a log says is what was changed last, or what was under way.
-/
import Derived.Test.YtckmlaempffpjaaGreatGSV
import Derived.Test.YtckmlaempffpjaaGreatGDA
import Derived.Test.YtckmlaempffpjaaGreatGDR
namespace Go.Proofs.YtckmlaempffpjaaGreat
open Go.RowKit Go.Shelf Go.Proofs.Tryz
theorem cut_len (o : Fi) (k B : Nat) (h : lenF o ≤ B) : lenF (cutF o k) ≤ B := by
 cases o with
 | none => exact h
 | some f =>
  show (f.1.take (f.2 + k)).length ≤ B
  rw [List.length_take];exact Nat.le_trans (Nat.min_le_right _ _) h
/-! what a store tells -/
end Go.Proofs.YtckmlaempffpjaaGreat
namespace Go.Proofs.YtckmlaempffpjaaGreat
set_option linter.unusedVariables false
set_option maxRecDepth 100000
set_option maxHeartbeats 2000000
open Go.RowKit Go.Proofs.Tryz
theorem row_any (a b : ByteArray) (w : World) :
  Calls prog 21 #[.string a, .string b] w fun e w' => e = .returned (rwv ⟨a, b⟩) ∧ Below w.heap.size w w' := by
 have H0 := HA.start w
 go_enter Tryz.func21, Tryz.ntmps21
 refine zsr ?_;refine wl_make (c := #[.string ({ data := #[] }), .string ({ data := #[] })]) H0 64 ?_;intro q1 w2 h3;refine znt (zsr (zv (zv (zv ?_))));refine wl_fill (c' := #[.string a, .string b]) h3 0 rfl rfl ?_;intro w4 h5;refine znt ?_;refine wp_ret ?_
 repeat first|refine zrt ?_|refine block_ret ?_
 exact bodyPost_ret (res_cell (p := 4) (by kernel_rfl) (by kernel_rfl) (h5.get 0 rfl) underlying64 rfl (by kernel_rfl)) rfl ⟨rfl, h5.old.old⟩
end Go.Proofs.YtckmlaempffpjaaGreat
namespace Go.Proofs.YtckmlaempffpjaaGreat
open Go Go.RowKit
def oldB (ops : Array Oper) (i : Nat) (t : Tmp) : Bool := (List.range ops.size).all fun j =>
 match ops[j]? with
 | none => true
 | some oj => oj.dst != some t || oj.after.any fun e => Region.binds .any e && e.on == i
theorem oldB_at {ops : Array Oper} {i : Nat} {t : Tmp} (h : oldB ops i t = true) {j : Nat} {oj : Oper} (hj : ops[j]? = some oj) (hd : oj.dst = some t) : ∃ e ∈ oj.after, Region.binds .any e = true ∧ e.on = i := by
 have h1 := List.all_eq_true.1 h j (List.mem_range.2 (Array.getElem?_eq_some_iff.1 hj).1)
 simp only [hj, hd, bne_self_eq_false, Bool.false_or] at h1
 obtain ⟨e, he, h2⟩ := Array.any_eq_true'.1 h1;rw [Bool.and_eq_true] at h2;exact ⟨e, he, h2.1, by simpa using h2.2⟩
section
variable {P : Program} {ops : Array Oper} {Q : Exit → Act → World → Prop} {i : Nat} {t : Tmp} {v : Value} {dst : Option Tmp} {ty : TypeId} {pos : String} {aft : Array Edge}
def withV (ops : Array Oper) (i : Nat) (dst : Option Tmp) (ty : TypeId) (pos : String) (aft : Array Edge) (v : Value) : Array Oper := ops.setIfInBounds i ⟨dst, .move (.const v), ty, pos, aft, none⟩
theorem withV_ne {j : Nat} (h : i ≠ j) : (withV ops i dst ty pos aft v)[j]? = ops[j]? := by
 unfold withV
 exact Array.getElem?_setIfInBounds_ne h
theorem withV_at (ho : ops[i]? = some ⟨dst, .move (.tmp t), ty, pos, aft, none⟩) : (withV ops i dst ty pos aft v)[i]? = some ⟨dst, .move (.const v), ty, pos, aft, none⟩ := by
 unfold withV
 have hlt := (Array.getElem?_eq_some_iff.1 ho).1;rw [Array.getElem?_setIfInBounds_self_of_lt hlt]
theorem withV_size : (withV ops i dst ty pos aft v).size = ops.size := by simp [withV]
theorem yielded_withV (ho : ops[i]? = some ⟨dst, .move (.tmp t), ty, pos, aft, none⟩) (ts : Array Value) : yielded (withV ops i dst ty pos aft v) ts = yielded ops ts := by
 funext g
 unfold yielded
 by_cases e : i = g
 ·subst e; rw [withV_at ho, ho]; rfl
 ·rw [withV_ne e]
theorem ready_withV (ho : ops[i]? = some ⟨dst, .move (.tmp t), ty, pos, aft, none⟩) (listed : Array Bool) : Region.ready .any (withV ops i dst ty pos aft v) listed = Region.ready .any ops listed := by
 unfold Region.ready
 rw [withV_size];refine List.filter_congr fun j _ => ?_
 by_cases e : i = j
 ·subst e; rw [withV_at ho, ho]; rfl
 ·rw [withV_ne e]
theorem eval_put_ne {a : Act} {d : Option Tmp} {u : Value} (h : d ≠ some t) : (a.put d u).eval (.tmp t) = a.eval (.tmp t) := Act.eval_put fun d' hd e => h (by rw [hd]; cases e; rfl)
theorem any_old (ho : ops[i]? = some ⟨dst, .move (.tmp t), ty, pos, aft, none⟩) (hold : oldB ops i t = true) : ∀ (fuel : Nat) (listed : Array Bool) (a : Act) (w : World), (listed.getD i false = false → a.eval (.tmp t) = v) →
  wpAny P .any (withV ops i dst ty pos aft v) Q fuel listed a w → wpAny P .any ops Q fuel listed a w
 | 0, listed, a, w, _, h => by
  unfold wpAny at h ⊢
  rw [ready_withV ho] at h;exact h
 | fuel + 1, listed, a, w, hv, h => by
  unfold wpAny at h ⊢
  rw [ready_withV ho] at h;refine ⟨h.1, fun j hj => ?_⟩;have h2 := h.2 j hj
  unfold wpOp at h2 ⊢
  by_cases e : i = j
  ·subst e;rw [withV_at ho, yielded_withV ho] at h2;rw [ho]
   simp only at h2 ⊢
   have hw : ∀ o : Op, Region.wanted (⟨dst, o, ty, pos, aft, none⟩ : Oper) (yielded ops a.tmps) = true := fun _ => rfl
   rw [if_pos (hw _)] at h2 ⊢;have hlt : i < ops.size := (Array.getElem?_eq_some_iff.1 ho).1;have hnot : listed.getD i false = false := by
    have := ((mem_ready (md := .any) (ops := ops)).1 hj).1
    cases hl : listed[i]? with
    | none => simp [hl]
    | some b => simp [hl] at this ⊢; exact this
   have hval := hv hnot;refine h2.imp (fun h3 => ?_) (fun h3 => ?_)
   ·unfold Oper.wp at h3 ⊢
    have e1 : (execOp a.eval (⟨dst, .move (.const v), ty, pos, aft, none⟩ : Oper)).run P w = .ok (.value v) w := rfl;have e2 : (execOp a.eval (⟨dst, .move (.tmp t), ty, pos, aft, none⟩ : Oper)).run P w = .ok (.value v) w := by rw [← hval]; rfl
    rw [e1] at h3;rw [e2];exact any_old ho hold fuel _ _ _ (fun hf => by
     rw [Array.getD_eq_getD_getElem?, Array.getElem?_setIfInBounds] at hf;exact absurd hf (by
      rw [if_pos rfl]
      split
      ·simp
      ·rename_i hs
       exact fun _ => hs (by
        have := ((mem_ready (md := .any) (ops := ops)).1 hj).1
        rcases Nat.lt_or_ge i listed.size with h9 | h9
        ·exact h9
        ·simp [Array.getElem?_eq_none h9] at this))) h3
   ·exact ⟨by
     obtain ⟨h4, _⟩ := h3
     unfold Oper.asks at h4 ⊢
     have e1 : execOp a.eval (⟨dst, .move (.const v), ty, pos, aft, none⟩ : Oper) = execOp a.eval (⟨dst, .move (.tmp t), ty, pos, aft, none⟩ : Oper) := by
      show (pure (Next.value v) : Sem Next) = pure (Next.value (a.eval (.tmp t)))
      rw [hval]
     rw [e1] at h4;exact h4, h3.2⟩
  ·rw [withV_ne e, yielded_withV ho] at h2
   cases hoj : ops[j]? with
   | none =>
    rw [hoj] at h2;exact any_old ho hold fuel _ _ _ (fun hf => hv (by rwa [getD_set_ne false (Ne.symm e)] at hf)) h2
   | some oj =>
    rw [hoj] at h2
    simp only at h2 ⊢
    have keep : ∀ (a' : Act) (w' : World), (listed.getD i false = false → a'.eval (.tmp t) = v) → wpAny P .any (withV ops i dst ty pos aft v) Q fuel (listed.setIfInBounds j true) a' w' → wpAny P .any ops Q fuel (listed.setIfInBounds j true) a' w' := fun a' w' hv' h' =>
     any_old ho hold fuel _ _ _ (fun hf => hv' (by rwa [getD_set_ne false (Ne.symm e)] at hf)) h'
    have hd : listed.getD i false = false → oj.dst ≠ some t := fun hf hdt => by
     obtain ⟨ed, hed, hb, hon⟩ := oldB_at hold hoj hdt;obtain ⟨_, o2, ho2, hall⟩ := (mem_ready (md := .any) (ops := ops)).1 hj;rw [hoj] at ho2
     cases ho2
     have := hall ed hed hb;rw [hon, hf] at this
     cases this
    have kp : ∀ (u : Value) (w' : World), wpAny P .any (withV ops i dst ty pos aft v) Q fuel (listed.setIfInBounds j true) (a.put oj.dst u) w' → wpAny P .any ops Q fuel (listed.setIfInBounds j true) (a.put oj.dst u) w' := fun u w' h' => keep _ w' (fun hf => by rw [eval_put_ne (hd hf)]; exact hv hf) h'
    split at h2
    ·rename_i hw
     rw [if_pos hw];refine h2.imp (fun h3 => ?_) id
     unfold Oper.wp at h3 ⊢
     generalize (execOp a.eval oj).run P w = r at *
     match r, h3 with
     | .ok (.value u) w', h3 => exact kp u w' h3
     | .ok .skip w', h3 => exact kp undef w' h3
     | .ok (.defer d) w', h3 => exact keep _ w' (fun hf => by rw [eval_put_ne (hd hf)]; exact hv hf) h3
     | .ok (.enter f args) w', h3 =>
      refine Calls.mono h3 fun en w2 he => ?_
      cases en with
      | returned u => exact kp u w2 he
      | panicked c => exact he
      | outgrown => exact he
     | .ok (.row row args) w', h3 => exact Rows.mono h3 fun u w2 he => kp u w2 he
     | .halt (.panic u) w', h3 => exact h3
    ·rename_i hw
     rw [if_neg hw];exact kp undef w h2
theorem wp_region_wxo {id : Nat} {S : World → Prop} {J : Act → World → Prop} {n : Nat} {a : Act} {w : World} (i : Nat) (v : Value) (ho' : ops.toList[i]? = some ⟨dst, .move (.tmp t), ty, pos, aft, none⟩) (hold : oldB ops i t = true) (hv : a.eval (.tmp t) = v) (hm : P.follows .mixedOrders = true) (hc : sureB .any (withV ops i dst ty pos aft v) = true) (hd : distB (withV ops i dst ty pos aft v) = true) (hsel : Region.noSelect (withV ops i dst ty pos aft v) = true) (hn : (withV ops i dst ty pos aft v).size = n) (hS : S w.drew)
  (h : WXS P (withV ops i dst ty pos aft v) J n S [] [] a w.drew) (hk : ∀ a w, J a w → Q .normal a w) : (Code.region id ops true).wp P Q a w := by
 have ho := lget ho';refine wp_region_any hm (any_old ho hold _ _ _ _ (fun _ => hv) ?_);have hsz : (withV ops i dst ty pos aft v).size = ops.size := withV_size;rw [← hsz];refine wx_sim hc hd hsel hk n S [] [] a w.drew h.go ?_ (fun j o _ h => by simp at h) (fun j h => by simp at h) _ _ a w.drew (Nat.le_trans (List.countP_le_length) (by simp)) (by simp) (fun j hj h => ?_) (fun j o _ h => ?_) ⟨rfl, rfl, fun _ _ => rfl⟩ hS (Below.refl _ _) (fun j o _ h => by simp at h)
 ·subst hn
  unfold cntL
  rw [List.countP_eq_length.2 (by simp)]
  simp
 ·simp [hj] at h
 ·rw [Array.getD_eq_getD_getElem?, Array.getElem?_replicate] at h
  split at h <;> simp at h
end
end Go.Proofs.YtckmlaempffpjaaGreat
namespace Go.Proofs.YtckmlaempffpjaaGreat
open Go.RowKit Go.Proofs.Tryz
end Go.Proofs.YtckmlaempffpjaaGreat
namespace Go.Proofs.YtckmlaempffpjaaGreat
open Go.RowKit Go.Proofs.Tryz
end Go.Proofs.YtckmlaempffpjaaGreat
namespace Go.Proofs.YtckmlaempffpjaaGreat
open Go.RowKit Go.Shelf Go.Proofs.Tryz
theorem PV.row {w0 : World} {L Lp : BL} {o : Option Addr} {c : Nat} {ps : List Rw} (h : Row 64 2 (.slice o ps.length c) ps.length (rcl ps) Lp) (hs : ∀ y ∈ Lp, y ∈ L) : PV w0 L o ps := fun _ A _ H => Row.rows h fun y hy => H.blk y (List.mem_append_right A (hs y hy))
theorem DV.row {w0 : World} {L Lp : BL} {o : Option Addr} {c : Nat} {ds : List ByteArray} (h : Row 9 1 (.slice o ds.length c) ds.length (scl ds) Lp) (hs : ∀ y ∈ Lp, y ∈ L) : DV w0 L o ds := fun _ A _ H => Row.keys h fun y hy => H.blk y (List.mem_append_right A (hs y hy))
theorem DH.sub {w0 : World} {M : ML} {d : Dk} {D : DS} {L L' : BL} {w : World} (h : DH w0 M d D L w) (hs : L'.Sublist L) : DH w0 M d D L' w := by
 obtain ⟨m, X, hc, H⟩ := DH.open2 h;exact hc M L' w (H.sub (hs.append_right X))
end Go.Proofs.YtckmlaempffpjaaGreat
namespace Go.Proofs.YtckmlaempffpjaaGreat
open Go.RowKit Go.Proofs.Tryz
end Go.Proofs.YtckmlaempffpjaaGreat
namespace Go.Proofs.YtckmlaempffpjaaGreat
open Go.RowKit Go.Proofs.Tryz
section
variable {ρ : Operand → Value} {x y : Operand} {w : World} {dst : Option Tmp} {T e ty : TypeId} {pos : String} {aft : Array Edge} {gd : Option (Nat × Bool)}
theorem run_addrT {o : Option Addr} {a : Addr} {n m i sz : Nat} (ho : o = some a) (hT : prog.underlying T = some (.slice e)) (hs : ∀ w, (sizeOf e).run prog w = .ok sz w)   (hi : i < n) (hx : ρ x = .slice o n m := by kernel_rfl) (hy : ρ y = i6 i := by kernel_rfl) : (execOp ρ ⟨dst, .indexAddr T x y, ty, pos, aft, gd⟩).run prog w = .ok (.value (.pointer (some (a.add (i * sz))))) w := by
 subst ho
 simp only [execOp, hx, hy, iN]
 simp [go_sem, hT, hs, hi]
theorem run_loadT {a : Addr} {c : Array Value} {D : TypeDesc}  (hc : ∀ j v, c[j]? = some v → w.cell? (a.add j) = some v) (hu : prog.underlying T = some D) (hd : D.isRow = true)  (hx : ρ x = .pointer (some a) := by kernel_rfl) (hi : (prog.info? T).map (·.size) = some c.size := by kernel_rfl) :
  (execOp ρ ⟨dst, .load T x, ty, pos, aft, gd⟩).run prog w = .ok (.value (.agg c)) w := by
 have hl : (loadCells a c.toList.length).run prog w = .ok c.toList.toArray w := run_loadCells_list (P := prog) w a c.toList (fun j v hv => hc j v (by rw [← Array.getElem?_toList]; exact hv))
 cases hq : prog.info? T with
 | none => simp [hq] at hi
 | some i =>
  have hs : i.size = c.toList.length := by simpa [hq] using hi
  have hagg : (isAgg T).run prog w = .ok true w := by
   unfold isAgg
   rw [Sem.run_bind, run_underlying hu w]
   cases D <;> simp_all
  have hload : (loadVar T a).run prog w = .ok (.agg c) w := by
   rw [Array.length_toList] at hl hs
   simp [loadVar, Sem.run_bind, hagg, sizeOf, typeInfo, hq, hs, hl]
  simp only [execOp, hx, Instr.loadAt, Instr.sureAddr, Sem.run_bind, Sem.run_pure, Result.andThen_ok, hload]
end
theorem wx_two {P : Program} {ops : Array Oper} {J : Act → World → Prop} {n : Nat} {S : World → Prop} {l lp : List Nat} {a : Act} {w : World} (i j : Nat) (hr : readyL ops l = [i, j]) (h : EX P ops J n S l lp i a w) (h2 : EX P ops J n S l lp j a w) : WXS P ops J (n + 1) S l lp a w := wx_act fun k hk => by
 rw [hr] at hk
 rcases List.mem_cons.1 hk with rfl | hk
 ·exact h
 ·obtain rfl := List.mem_singleton.1 hk;exact h2
structure RF where
 nm : ByteArray
 b : ByteArray
 sy : Nat
def rf1 (f : RF) : List Value := [.string f.nm, .string f.b, i6 f.sy]
def fcl (fs : List RF) : List Value := fs.flatMap rf1
theorem fcl_len (fs : List RF) : (fcl fs).length = fs.length * 3 := by
 induction fs with
 | nil => rfl
 | cons f fs ih => simp only [fcl, List.flatMap_cons, List.length_append, List.length_cons] at ih ⊢; rw [ih]; simp [rf1]; omega
theorem fcl_get : ∀ (fs : List RF) (i : Nat) (f : RF), fs[i]? = some f → (fcl fs)[3 * i]? = some (.string f.nm) ∧ (fcl fs)[3 * i + 1]? = some (.string f.b) ∧ (fcl fs)[3 * i + 2]? = some (i6 f.sy)
 | [], _, _, h => by simp at h
 | g :: fs, 0, f, h => by
  have : g = f := by simpa using h
  subst this;exact ⟨rfl, rfl, rfl⟩
 | g :: fs, i + 1, f, h => by
  obtain ⟨h1, h2, h3⟩ := fcl_get fs i f (by simpa using h);have e : fcl (g :: fs) = rf1 g ++ fcl fs := rfl;have l : (rf1 g).length = 3 := rfl;refine ⟨?_, ?_, ?_⟩
  ·rw [e, List.getElem?_append_right (by omega), l, show 3 * (i + 1) - 3 = 3 * i by omega]; exact h1
  ·rw [e, List.getElem?_append_right (by omega), l, show 3 * (i + 1) + 1 - 3 = 3 * i + 1 by omega]; exact h2
  ·rw [e, List.getElem?_append_right (by omega), l, show 3 * (i + 1) + 2 - 3 = 3 * i + 2 by omega]; exact h3
def RFL (v : Value) (fs : List RF) (N : BL) : Prop :=
 (v = .slice none 0 0 ∧ fs = []) ∨ ∃ g cap cur, v = .slice (some ⟨g, 0, none⟩) fs.length cap ∧ (g, 127, cur) ∈ N ∧ fs.length ≤ cap ∧ cap ≤ maxLen ∧ cur.toList.take (fs.length * 3) = fcl fs
def RZL (v : Value) (zs : List Nat) (N : BL) : Prop :=
 (v = .slice none 0 0 ∧ zs = []) ∨ ∃ g cap cur, v = .slice (some ⟨g, 0, none⟩) zs.length cap ∧ (g, 3, cur) ∈ N ∧ zs.length ≤ cap ∧ cap ≤ maxLen ∧ cur.toList.take zs.length = zs.map (i6 ·)
def Stand (w : World) (N : BL) : Prop := ∀ x ∈ N, Blk w x.1 x.2.1 x.2.2
theorem Stand.keep {w w' : World} {N : BL} (h : Stand w N) (hb : Below w.heap.size w w') : Stand w' N := fun x hx => (h x hx).keep hb
theorem RFL.at {p : Option Addr} {n c : Nat} {fs : List RF} {N : BL} (h : RFL (.slice p n c) fs N) {i : Nat} {f : RF} (hi : fs[i]? = some f) : ∃ g cur, p = some ⟨g, 0, none⟩ ∧ n = fs.length ∧ (g, 127, cur) ∈ N ∧ cur[3 * i]? = some (.string f.nm) ∧ cur[3 * i + 1]? = some (.string f.b) ∧ cur[3 * i + 2]? = some (i6 f.sy) := by
 rcases h with ⟨_, rfl⟩ | ⟨g, cap, cur, h1, h2, _, _, h3⟩
 ·simp at hi
 ·cases h1
  have hl := (List.getElem?_eq_some_iff.1 hi).1;obtain ⟨a, b, d⟩ := fcl_get fs i f hi;have e : ∀ j, j < fs.length * 3 → cur[j]? = (fcl fs)[j]? := fun j hj => by
   rw [← h3, List.getElem?_take, if_pos hj]; simp
  exact ⟨g, cur, rfl, rfl, h2, (e _ (by omega)).trans a, (e _ (by omega)).trans b, (e _ (by omega)).trans d⟩
theorem RFL.mono {v : Value} {fs : List RF} {N N' : BL} (h : RFL v fs N) (hs : N ⊆ N') : RFL v fs N' := h.imp id (fun ⟨g, c, u, h1, h2, h3⟩ => ⟨g, c, u, h1, hs h2, h3⟩)
theorem RZL.mono {v : Value} {zs : List Nat} {N N' : BL} (h : RZL v zs N) (hs : N ⊆ N') : RZL v zs N' := h.imp id (fun ⟨g, c, u, h1, h2, h3⟩ => ⟨g, c, u, h1, hs h2, h3⟩)
section
variable {ρ : Operand → Value} {x y : Operand} {w : World} {dst : Option Tmp} {T T2 ty : TypeId} {pos : String} {aft : Array Edge} {gd : Option (Nat × Bool)}
theorem run_addr75 {q n m a : Nat} (hx : ρ x = .slice (some ⟨q, 0, none⟩) n m) (hy : ρ y = i6 a) (ha : a < n) : (execOp ρ ⟨dst, .indexAddr 26 x y, ty, pos, aft, gd⟩).run prog w = .ok (.value (.pointer (some ⟨q, 3 * a, none⟩))) w := by
 simp only [execOp, hx, hy, iN]
 go_simp
end
end Go.Proofs.YtckmlaempffpjaaGreat
namespace Go.Proofs.YtckmlaempffpjaaGreat
set_option linter.unusedVariables false
set_option maxRecDepth 100000
set_option maxHeartbeats 2000000
open Go.RowKit Go.Proofs.Tryz
section
variable {P : Program} {ops : Array Oper} {S : World → Prop} {J : Act → World → Prop} {n : Nat} {l lp : List Nat} {a : Act} {w : World} {z : Base} {L : BL} {i : Nat}
theorem ex_skipS {o : Oper} (ho : ops.toList[i]? = some o) (hw : Region.wanted o (yielded ops a.tmps) = true) (H : HA z L w)
  (h : ∀ w1, HA z L w1 → ∃ w', (execOp a.eval o).run P w1 = .ok .skip w' ∧ S w' ∧ WXS P ops J n S (i :: l) lp (a.put o.dst undef) w') : EX P ops J n S l lp i a w := ⟨fun x hx => by
 rw [lget ho] at hx
 cases hx
 refine ⟨hw, fun w1 hb1 _ => ?_⟩;obtain ⟨w', hr, hS', hK⟩ := h w1 (HA.keep _ _ H hb1)
 unfold Oper.wp
 rw [hr];exact ⟨⟨_, rfl⟩, S, .inr rfl, hS', hK.go⟩⟩
end
theorem gate_d {w : World} {rm lf nf cf nz cz : Nat} {pf pz : Option Addr} :
  Calls prog 77 #[.agg (d5 rm pf nf cf true lf pz nz cz)] w fun e w' => e = .returned (.tuple #[.agg (d5 rm pf nf cf true lf pz nz cz), .bool false]) ∧ Below w.heap.size w w' := by
 have H0 := HA.start w
 go_enter Tryz.func77, Tryz.ntmps77
 refine zsr ?_;refine wl_make (c := (d5 rm pf nf cf true lf pz nz cz)) H0 29 ?_;intro q1 w2 h3;refine wl_make (c := (d5 0 none 0 0 false 0 none 0 0)) h3 29 ?_;intro q4 w5 h6;refine zv (znt (wp_seq (zsr (zv ?_))));refine zwu (v := .bool true) (run_load1 isAgg4 (((h6.get 1 rfl).cell 2).trans rfl)) ?_;refine znt (zct (zsr ?_));refine wl_load h6 1 rfl underlying29 rfl ?_;refine wl_fill (c' := (d5 rm pf nf cf true lf pz nz cz)) h6 0 rfl rfl ?_;intro w7 h8;refine zv (znt ?_);refine wp_ret ?_
 repeat first|refine zrt ?_|refine block_ret ?_
 exact bodyPost_ret (res_cell_tmp (p := 2) (r := 3) (by kernel_rfl) (by kernel_rfl) (by kernel_rfl) (h8.get 0 rfl) underlying29 rfl (by kernel_rfl)) rfl ⟨rfl, h8.old.old⟩
theorem gate_0 {w : World} {rm lf nf cf nz cz : Nat} {pf pz : Option Addr} (hl : lf = 0) :
  Calls prog 77 #[.agg (d5 rm pf nf cf false lf pz nz cz)] w fun e w' => e = .returned (.tuple #[.agg (d5 rm pf nf cf false lf pz nz cz), .bool true]) ∧ Below w.heap.size w w' := by
 have H0 := HA.start w
 go_enter Tryz.func77, Tryz.ntmps77
 refine zsr ?_;refine wl_make (c := (d5 rm pf nf cf false lf pz nz cz)) H0 29 ?_;intro q1 w2 h3;refine wl_make (c := (d5 0 none 0 0 false 0 none 0 0)) h3 29 ?_;intro q4 w5 h6;refine zv (znt (wp_seq (zsr (zv ?_))));refine zwu (v := .bool false) (run_load1 isAgg4 (((h6.get 1 rfl).cell 2).trans rfl)) ?_;refine znt (zcf (wp_skip (zt (wp_seq (zsr (zv ?_))))));refine zwu (v := i6 lf) (run_load1 isAgg3 (((h6.get 1 rfl).cell 3).trans rfl)) ?_;refine zwu (run_eqi (k := .i64) (a := lf) (b := 0) true (dt hl)) ?_;refine znt (zct (zsr ?_));refine wl_load h6 1 rfl underlying29 rfl ?_;refine wl_fill (c' := (d5 rm pf nf cf false lf pz nz cz)) h6 0 rfl rfl ?_;intro w7 h8;refine zv (znt ?_);refine wp_ret ?_
 repeat first|refine zrt ?_|refine block_ret ?_
 exact bodyPost_ret (res_cell_tmp (p := 2) (r := 3) (by kernel_rfl) (by kernel_rfl) (by kernel_rfl) (h8.get 0 rfl) underlying29 rfl (by kernel_rfl)) rfl ⟨rfl, h8.old.old⟩
theorem gate_1 {w : World} {rm lf nf cf nz cz : Nat} {pf pz : Option Addr} (hl : lf = 1) :
  Calls prog 77 #[.agg (d5 rm pf nf cf false lf pz nz cz)] w fun e w' => e = .returned (.tuple #[.agg (d5 rm pf nf cf true ((lf - 1)) pz nz cz), .bool false]) ∧ Below w.heap.size w w' := by
 have H0 := HA.start w
 go_enter Tryz.func77, Tryz.ntmps77
 refine zsr ?_;refine wl_make (c := (d5 rm pf nf cf false lf pz nz cz)) H0 29 ?_;intro q1 w2 h3;refine wl_make (c := (d5 0 none 0 0 false 0 none 0 0)) h3 29 ?_;intro q4 w5 h6;refine zv (znt (wp_seq (zsr (zv ?_))));refine zwu (v := .bool false) (run_load1 isAgg4 (((h6.get 1 rfl).cell 2).trans rfl)) ?_;refine znt (zcf (wp_skip (zt (wp_seq (zsr (zv ?_))))));refine zwu (v := i6 lf) (run_load1 isAgg3 (((h6.get 1 rfl).cell 3).trans rfl)) ?_;refine zwu (run_eqi (k := .i64) (a := lf) (b := 0) false (df (by omega))) ?_;refine znt (zcf (wp_skip (zt (zsr (zv ?_)))));refine zwu (v := i6 lf) (run_load1 isAgg3 (((h6.get 1 rfl).cell 3).trans rfl)) ?_;refine zwu (v := i6 (lf - 1)) (run_sub (k := .i64) (a := lf) (b := 1) (by first | omega | (simp only [top]; omega)) (by first | omega | (simp only [top]; omega))) ?_;refine zv ?_;refine wl_putv (v := i6 (lf - 1)) h6 1 rfl 3 (by show 3 < 5; decide) sizeOf3 ?_;intro w7 h8;refine znt (wp_seq (zsr (zv ?_)));refine zwu (v := i6 (lf - 1)) (run_load1 isAgg3 (((h8.get 1 rfl).cell 3).trans rfl)) ?_;refine zwu (run_eqi (k := .i64) (a := lf - 1) (b := 0) true (dt (by omega))) ?_;refine znt (zct (wl_region (zv ?_)));refine wl_putv (v := .bool true) h8 1 rfl 2 (by show 2 < 5; decide) sizeOf4 ?_;intro w9 h10;refine znt (wp_seq ?_);refine zxr (HA (bs w) [(q1, 29, (d5 rm pf nf cf true (lf - 1) pz nz cz))]) (fun Z0 AQ w' => AQ = pts Z0 [(19, .agg ((d5 rm pf nf cf true (lf - 1) pz nz cz))), (20, .pointer (some ⟨q1, 2, none⟩)), (21, .bool true), (22, .bool false)] ∧ HA (bs w) [(q4, 29, (d5 rm pf nf cf true (lf - 1) pz nz cz)), (q1, 29, (d5 rm pf nf cf true (lf - 1) pz nz cz))] w') 6 (h10.drew.sub (sk (sc (sr)))) ?_ ?_
 ·have h11 := h10.drew;refine wx_val (i := 0) (.agg ((d5 rm pf nf cf true (lf - 1) pz nz cz))) rfl rfl (fun w' h' => run_load_blk (h'.get 0 rfl) underlying29 rfl) ?_;refine zxp 1 rfl ?_;refine wx_val (i := 2) (.bool true) rfl rfl (fun w' h' => run_load1 isAgg4 (((h'.get 0 rfl).cell 2).trans rfl)) ?_;refine zxp 3 rfl ?_;refine wx_one 4 ?_;refine ex_skipS rfl (by kernel_rfl) h11 fun w12 h13 => ⟨_, run_store_blk (c' := (d5 rm pf nf cf true (lf - 1) pz nz cz)) (h13.get 0 rfl) rfl, (h13.fill 0 rfl (c' := (d5 rm pf nf cf true (lf - 1) pz nz cz)) rfl).sub (sk (sc (sr))), ?_⟩
  have h14 : HA (bs w) [(q4, 29, (d5 rm pf nf cf true (lf - 1) pz nz cz)), (q1, 29, (d5 rm pf nf cf true (lf - 1) pz nz cz))] _ := h13.fill 0 rfl (c' := (d5 rm pf nf cf true (lf - 1) pz nz cz)) rfl;refine zxp 5 rfl ?_;refine wx_end fun w15 hbx _ => ?_
  have h16 := HA.keep _ _ h14 hbx;exact ⟨by kernel_rfl, h16⟩
 ·rintro _ w17 ⟨rfl, h18⟩;refine zt ?_;refine wp_ret ?_
  repeat first|refine zrt ?_|refine block_ret ?_
  exact bodyPost_ret (res_cell_tmp (p := 2) (r := 3) (by kernel_rfl) (by kernel_rfl) (by kernel_rfl) (h18.get 0 rfl) underlying29 rfl (by kernel_rfl)) rfl ⟨rfl, h18.old.old⟩
theorem gate_n {w : World} {rm lf nf cf nz cz : Nat} {pf pz : Option Addr} (hl : 2 ≤ lf) (hb : lf ≤ 9223372036854775807) :
  Calls prog 77 #[.agg (d5 rm pf nf cf false lf pz nz cz)] w fun e w' => e = .returned (.tuple #[.agg (d5 rm pf nf cf false ((lf - 1)) pz nz cz), .bool true]) ∧ Below w.heap.size w w' := by
 have H0 := HA.start w
 go_enter Tryz.func77, Tryz.ntmps77
 refine zsr ?_;refine wl_make (c := (d5 rm pf nf cf false lf pz nz cz)) H0 29 ?_;intro q1 w2 h3;refine wl_make (c := (d5 0 none 0 0 false 0 none 0 0)) h3 29 ?_;intro q4 w5 h6;refine zv (znt (wp_seq (zsr (zv ?_))));refine zwu (v := .bool false) (run_load1 isAgg4 (((h6.get 1 rfl).cell 2).trans rfl)) ?_;refine znt (zcf (wp_skip (zt (wp_seq (zsr (zv ?_))))));refine zwu (v := i6 lf) (run_load1 isAgg3 (((h6.get 1 rfl).cell 3).trans rfl)) ?_;refine zwu (run_eqi (k := .i64) (a := lf) (b := 0) false (df (by omega))) ?_;refine znt (zcf (wp_skip (zt (zsr (zv ?_)))));refine zwu (v := i6 lf) (run_load1 isAgg3 (((h6.get 1 rfl).cell 3).trans rfl)) ?_;refine zwu (v := i6 (lf - 1)) (run_sub (k := .i64) (a := lf) (b := 1) (by first | omega | (simp only [top]; omega)) (by first | omega | (simp only [top]; omega))) ?_;refine zv ?_;refine wl_putv (v := i6 (lf - 1)) h6 1 rfl 3 (by show 3 < 5; decide) sizeOf3 ?_;intro w7 h8;refine znt (wp_seq (zsr (zv ?_)));refine zwu (v := i6 (lf - 1)) (run_load1 isAgg3 (((h8.get 1 rfl).cell 3).trans rfl)) ?_;refine zwu (run_eqi (k := .i64) (a := lf - 1) (b := 0) false (df (by omega))) ?_;refine znt (zcf (wp_skip (zt (wp_seq ?_))));refine zxr (HA (bs w) [(q1, 29, (d5 rm pf nf cf false (lf - 1) pz nz cz))]) (fun Z0 AQ w' => AQ = pts Z0 [(3, .bool true), (19, .agg ((d5 rm pf nf cf false (lf - 1) pz nz cz))), (20, .pointer (some ⟨q1, 2, none⟩)), (21, .bool false), (22, .bool true)] ∧ HA (bs w) [(q4, 29, (d5 rm pf nf cf false (lf - 1) pz nz cz)), (q1, 29, (d5 rm pf nf cf false (lf - 1) pz nz cz))] w') 6 (h8.drew.sub (sk (sc (sr)))) ?_ ?_
 ·have h9 := h8.drew;refine wx_val (i := 0) (.agg ((d5 rm pf nf cf false (lf - 1) pz nz cz))) rfl rfl (fun w' h' => run_load_blk (h'.get 0 rfl) underlying29 rfl) ?_;refine zxp 1 rfl ?_;refine wx_val (i := 2) (.bool false) rfl rfl (fun w' h' => run_load1 isAgg4 (((h'.get 0 rfl).cell 2).trans rfl)) ?_;refine zxp 3 rfl ?_;refine wx_one 4 ?_;refine ex_skipS rfl (by kernel_rfl) h9 fun w10 h11 => ⟨_, run_store_blk (c' := (d5 rm pf nf cf false (lf - 1) pz nz cz)) (h11.get 0 rfl) rfl, (h11.fill 0 rfl (c' := (d5 rm pf nf cf false (lf - 1) pz nz cz)) rfl).sub (sk (sc (sr))), ?_⟩
  have h12 : HA (bs w) [(q4, 29, (d5 rm pf nf cf false (lf - 1) pz nz cz)), (q1, 29, (d5 rm pf nf cf false (lf - 1) pz nz cz))] _ := h11.fill 0 rfl (c' := (d5 rm pf nf cf false (lf - 1) pz nz cz)) rfl;refine zxp 5 rfl ?_;refine wx_end fun w13 hbx _ => ?_
  have h14 := HA.keep _ _ h12 hbx;exact ⟨by kernel_rfl, h14⟩
 ·rintro _ w15 ⟨rfl, h16⟩;refine zt ?_;refine wp_ret ?_
  repeat first|refine zrt ?_|refine block_ret ?_
  exact bodyPost_ret (res_cell_tmp (p := 2) (r := 3) (by kernel_rfl) (by kernel_rfl) (by kernel_rfl) (h16.get 0 rfl) underlying29 rfl (by kernel_rfl)) rfl ⟨rfl, h16.old.old⟩
theorem rname_0 {w : World} {s : ByteArray} (hs : s.size = 0) :
  Calls prog 78 #[.string s] w fun e w' => e = .returned (.bool false) ∧ Below w.heap.size w w' := by
 have H0 := HA.start w
 go_enter Tryz.func78, Tryz.ntmps78
 refine zsr (zv (znt (zsr (zv ?_))));refine zwu (run_len (s := s)) ?_;refine zwu (run_geq (k := .i64) (a := s.size) (b := 1) false (df (by omega))) ?_;refine zv ?_;refine wl_skip ?_;refine wl_skip ?_;refine wl_skip ?_;refine zv (zv (znt ?_));refine wp_ret ?_
 repeat first|refine zrt ?_|refine block_ret ?_
 exact zb ⟨rfl, H0.old.old⟩
theorem rname_y {w : World} {s : ByteArray} (h1 : 1 ≤ s.size) (h2 : s.size ≤ 64) :
  Calls prog 78 #[.string s] w fun e w' => e = .returned (.bool true) ∧ Below w.heap.size w w' := by
 have H0 := HA.start w
 go_enter Tryz.func78, Tryz.ntmps78
 refine zsr (zv (znt (zsr (zv ?_))));refine zwu (run_len (s := s)) ?_;refine zwu (run_geq (k := .i64) (a := s.size) (b := 1) true (dt (by omega))) ?_;refine zv (zv ?_);refine zwu (run_len (s := s)) ?_;refine zwu (run_leq (k := .i64) (a := s.size) (b := 64) (by kernel_rfl) (by kernel_rfl) true (dt (by omega))) ?_;refine zv (zv (znt ?_));refine wp_ret ?_
 repeat first|refine zrt ?_|refine block_ret ?_
 exact zb ⟨rfl, H0.old.old⟩
theorem rname_n {w : World} {s : ByteArray} (h2 : 64 < s.size) :
  Calls prog 78 #[.string s] w fun e w' => e = .returned (.bool false) ∧ Below w.heap.size w w' := by
 have H0 := HA.start w
 go_enter Tryz.func78, Tryz.ntmps78
 refine zsr (zv (znt (zsr (zv ?_))));refine zwu (run_len (s := s)) ?_;refine zwu (run_geq (k := .i64) (a := s.size) (b := 1) true (dt (by omega))) ?_;refine zv (zv ?_);refine zwu (run_len (s := s)) ?_;refine zwu (run_leq (k := .i64) (a := s.size) (b := 64) (by kernel_rfl) (by kernel_rfl) false (df (by omega))) ?_;refine zv (zv (znt ?_));refine wp_ret ?_
 repeat first|refine zrt ?_|refine block_ret ?_
 exact zb ⟨rfl, H0.old.old⟩
theorem rname_any (w : World) (s : ByteArray) :
  Calls prog 78 #[.string s] w fun e w' => e = .returned (.bool (decide (1 ≤ s.size ∧ s.size ≤ 64))) ∧ Below w.heap.size w w' := by
 by_cases h1 : 1 ≤ s.size
 ·by_cases h2 : s.size ≤ 64
  ·rw [decide_eq_true ⟨h1, h2⟩]; exact rname_y h1 h2
  ·rw [decide_eq_false (fun h => h2 h.2)]; exact rname_n (by omega)
 ·rw [decide_eq_false (fun h => h1 h.1)]; exact rname_0 (by omega)
end Go.Proofs.YtckmlaempffpjaaGreat
